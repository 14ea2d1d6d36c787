/- This program: its code, contracts, numbers, part 8. -/
import Derived.Test.YtnbfkakjdifcpaaGreatPag
import Derived.Test.YtnbfkakjdifcpaaGreatPad
import Derived.Test.YtnbfkakjdifcpaaGreatPaf
import Derived.Test.YtnbfkakjdifcpaaGreatNa
import Derived.Test.YtnbfkakjdifcpaaGreatPac
set_option linter.unusedVariables false
set_option linter.unusedSimpArgs false
namespace Go.Proofs
open Go Go.RowKit Go.Sim
set_option maxRecDepth 100000
def doneN (N:LogN) (c:CarN):LogN:=(N.put c.bag 3 c.ca).put c.bag 4 c.cb
section
variable {pR pG pS:Option Addr} {cR cG cS:Nat} {s:StrN} {b r:Nat} {x:LogN}
set_option maxHeartbeats 32000000 in
theorem do_gen (c:CarN) (hc:CarOk s c) (fk E:Nat) (N:LogN) (hk:KindIs pR pG pS cR cG cS s b r x c fk E N) (hfk:kinds5.lookup (c.kind:Int)=some (fn0 fk)) (w:AW) (hL:LogAt w pR pG pS cR cG cS s b r x) (w0:AW) (g0:Grown w0 w) (hA:StrAt w0 pR pG pS cR cG cS s) (hN:NewLog w0 b r) :
    CallT Tryz.prog Tryz.T1 (.fn (.func 104) #[]) #[.pointer (some ⟨b,0,none⟩),carV c] w (fun v w'=>v=.int .i64 (E:Int)/\MutL b r w w'/\(E=0->LogAt w' pR pG pS cR cG cS s b r (doneN N c))):=by
 apply CallX.t
 have f:=g0.2
 have g1:=(Grown.refl f).push (.cells (carC c) 62 w.next 0 0)
 have O1:=Own.new f 62 (carC c)
 have hn1:(w.push (.cells (carC c) 62 w.next 0 0)).next=w.next+1:=AW.next_push _ _
 obtain⟨w1,hw1⟩:∃ w1,w.push (.cells (carC c) 62 w.next 0 0)=w1:=⟨_,rfl⟩
 rw[hw1]at g1 O1 hn1
 have g2:=g1.push (.cells [.int .i64 0] 27 w1.next 0 0)
 have O2:=Own.new g1.2 27 [.int .i64 0]
 have O12:=O1.push (.cells [.int .i64 0] 27 w1.next 0 0)
 have hn2:(w1.push (.cells [.int .i64 0] 27 w1.next 0 0)).next=w1.next+1:=AW.next_push _ _
 obtain⟨w2,hw2⟩:∃ w2,w1.push (.cells [.int .i64 0] 27 w1.next 0 0)=w2:=⟨_,rfl⟩
 rw[hw2]at g2 O2 O12 hn2
 obtain⟨u1,u2,u3,u4,w3,e1,e2,e3,e4,e5,hM,g3⟩:=kinds_made w2 g2.2
 have O13:=O12.keep g3.1
 have O23:=O2.keep g3.1
 have gg3:=g2.trans g3
 have c1:=O13.cell (o:=1) (v:=.int .i64 (c.kind:Int)) rfl rfl
 have hld:=loadAll O13 (n:=8) rfl (by simp[carC,oneCell])
 have hlk:=hM.lookup (z:=.nilFunc) hfk
 have hcall:=hk w3 (hL.grown gg3) w0 (g0.trans gg3) hA hN
 have hbl:=fun (o z:Nat)=>indexA_eq (z:=z) (len:=32) (b:=b) (o:=o) (k:=.i64) hc.bag
 have hbn:b < w.next:=hL.own.lt
 have hrn:r < w.next:=hL.map.lt
 have f1:=g1.2
 have f2:=g2.2
 have harg:∀ h:Operand->Value,((#[]:Array Value)++Array.map h #[]++#[.pointer (some ⟨w1.next,0,none⟩)]) = #[.pointer (some ⟨w1.next,0,none⟩)]:=fun h=>by simp
 unfold carC carV fn0 at *
 refine callX_codeZ [4] rfl Tryz.func104 rfl Tryz.s104_eq rfl ?_
 delta Tryz.s104 zo zt zg zh zon ztn zgn zhn zv zk
 simp -dsimp -implicitDefEqProofs (maxSteps:=2000000) (disch:=first|assumption|omega|simp only[nx];omega|(repeat apply zfp);assumption|simp only[smA];done|simp[oneCell,znp]) only[go_sem,hw1,hw2]
 rw[hw1,hw2]
 refine codeT_defer Tryz.hd104 Tryz.ld104 ?_
 simp only[AdS,wants_none]
 refine⟨rfl,rfl,.func (.func 122) #[] #[.pointer (some ⟨w1.next,0,none⟩)],?_,trivial,122,#[],#[.pointer (some ⟨w1.next,0,none⟩)],?_,?_⟩
 . simp only[QV]
   simp -dsimp -implicitDefEqProofs (maxSteps:=2000000) (disch:=first|assumption|omega|simp only[nx];omega|(repeat apply zfp);assumption|simp only[smA];done|simp[oneCell,znp]) only[go_sem]
 . simp -dsimp -implicitDefEqProofs (maxSteps:=2000000) (disch:=first|assumption|omega|simp only[nx];omega|(repeat apply zfp);assumption|simp only[smA];done|simp[oneCell,znp]) only[go_sem]
 simp -dsimp -implicitDefEqProofs (maxSteps:=2000000) (disch:=first|assumption|omega|simp only[nx];omega|(repeat apply zfp);assumption|simp only[smA];done|simp[oneCell,znp]) only[go_sem,e1,e2,e3,e4,e5,c1,hld,hlk,Nat.zero_add]
 have hrec:∀ (e:Int) (v':AW),MutL b r w3 v'->MutL b r w (v'.put w1.next (.cells [.int .i64 e] 27 w1.next 0 0))/\Own v' w1.next 27 [.int .i64 0]/\Own (v'.put w1.next (.cells [.int .i64 e] 27 w1.next 0 0)) w1.next 27 [.int .i64 e]:=by
  intro e v' m'
  have hE2:=m'.own O23 (fun q=>by rcases q with q|q <;> omega)
  have mm:MutL b r w v':=mLt (mLg gg3) m'
  have hp:MutS (fun j=>j=w1.next) v' (v'.put w1.next (.cells [.int .i64 e] 27 w1.next 0 0)):=MutS.put (S:=fun j=>j=w1.next) m'.fresh rfl hE2.lt _
  exact⟨MutS.trans mm hp (fun j q=>.inr (by have:j=w1.next:=q;omega)),hE2,hE2.put _⟩
 apply callXV_of (e:=rfl)
 . exact hcall
 rotate_left
 . rintro _ w4 ⟨hb,rfl,m4⟩
   obtain⟨k1,k2,k3⟩:=hrec E w4 m4
   have c0:=k3.cell (o:=0) rfl rfl
   simp -dsimp -implicitDefEqProofs (maxSteps:=2000000) (disch:=first|assumption|omega|simp only[nx];omega|(repeat apply zfp);assumption|simp only[smA];done|simp[oneCell,znp]) only[go_sem]
   refine leftX_recovered ?_
   rw[harg]
   refine DefT.mono (defer_okV w1.next E _ w4 k2 (.inr rfl)) ?_
   rintro bb w' (⟨q,_⟩|⟨_,rfl,rfl⟩)
   . cases q
   refine⟨rfl,[.int .i64 (E:Int)],?_,rfl,k1,fun q=>absurd q hb⟩
   show aresults (prg Tryz.prog) false _ _ Tryz.f104.results.toList=_
   rw[Tryz.results104]
   rw[resX_cell]
   simp -dsimp -implicitDefEqProofs (maxSteps:=2000000) (disch:=first|assumption|omega|simp only[nx];omega|(repeat apply zfp);assumption|simp only[smA];done|simp[oneCell,znp]) only[go_sem,resX_nil,c0]
 rintro _ w4 ⟨hb,m4,L4⟩
 have O14:=m4.own O13 (fun q=>by rcases q with q|q <;> omega)
 have O24:=m4.own O23 (fun q=>by rcases q with q|q <;> omega)
 have hcI:∀ w',Own w' w.next 62 [.int .i64 (c.day:Int),.int .i64 (c.kind:Int),.int .i64 (c.bag:Int),.int .i64 (c.to:Int),.int .i64 (c.ca:Int),.int .i64 (c.cb:Int),.int .i64 (c.sl:Int),.int .i64 (c.suits:Int)]->w'.cell? ⟨w.next,2,none⟩=some (.int .i64 (c.bag:Int))/\w'.cell? ⟨w.next,4,none⟩=some (.int .i64 (c.ca:Int))/\w'.cell? ⟨w.next,5,none⟩=some (.int .i64 (c.cb:Int)):=fun w' O=>⟨O.cell (o:=2) rfl rfl,O.cell (o:=4) rfl rfl,O.cell (o:=5) rfl rfl⟩
 obtain⟨a2,a4,a5⟩:=hcI w4 O14
 obtain⟨w5,st5,L5,m5⟩:=L4.put m4.fresh hc.bag 3 (by omega) c.ca
 have O15:=m5.own O14 (fun q=>by have:w.next=b:=q;omega)
 have O25:=m5.own O24 (fun q=>by have:w1.next=b:=q;omega)
 obtain⟨b2,b4,b5⟩:=hcI w5 O15
 obtain⟨w6,st6,L6,m6⟩:=L5.put m5.fresh hc.bag 4 (by omega) c.cb
 have O26:=m6.own O25 (fun q=>by have:w1.next=b:=q;omega)
 have st7:=storeV_own1 (o:=0) (v:=.int .i64 0) O26 (by simp) rfl
 simp only[setL]at st7
 have m7:MutS (fun _=>False) w6 (w6.put w1.next (.cells [.int .i64 0] 27 w1.next 0 0)):=MutS.put_same m6.fresh O26
 obtain⟨w7,hw7⟩:∃ w7,w6.put w1.next (.cells [.int .i64 0] 27 w1.next 0 0)=w7:=⟨_,rfl⟩
 rw[hw7]at st7 m7
 have O27:=m7.own O26 (fun q=>q)
 have L7:=L6.other m7 (fun q=>q) (fun q=>q)
 have mAll:MutL b r w w7:=MutS.trans (mLt (mLt (mLt (mLg gg3) m4) (mLb m5)) (mLb m6)) m7 (fun j q=>q.elim)
 simp -dsimp -implicitDefEqProofs (maxSteps:=2000000) (disch:=first|assumption|omega|simp only[nx];omega|(repeat apply zfp);assumption|simp only[smA];done|simp[oneCell,znp]) only[go_sem]
 show CodeT _ _ _ _ _ _ _ _
 refine codeT_regX Tryz.x104r4_eq Tryz.x104r4_kinds ?_
 unfold Tryz.x104r4
 simp -dsimp -implicitDefEqProofs (maxSteps:=2000000) (disch:=first|assumption|omega|simp only[nx];omega|(repeat apply zfp);assumption|simp only[smA];done|simp[oneCell,znp]) only[go_sem,a2,a4,a5,hbl,st5,Nat.zero_add]
 refine⟨⟨.inr ?_,.inl (show Nat.testBit 15559 7=true by decide),.inr ?_,.inl (show Nat.testBit 15559 2=true by decide),trivial⟩,?_⟩
 . intro inf hi
   have hi':some inf=(prg Tryz.prog).ty 3:=hi.symm
   rw[Tryz.ty3]at hi'
   cases hi'
   show w5.cell? ⟨w.next,5,none⟩=w4.cell? ⟨w.next,5,none⟩
   rw[a5,b5]
 . intro inf hi
   have hi':some inf=(prg Tryz.prog).ty 3:=hi.symm
   rw[Tryz.ty3]at hi'
   cases hi'
   show w5.cell? ⟨w.next,2,none⟩=w4.cell? ⟨w.next,2,none⟩
   rw[a2,b2]
 simp -dsimp -implicitDefEqProofs (maxSteps:=2000000) (disch:=first|assumption|omega|simp only[nx];omega|(repeat apply zfp);assumption|simp only[smA];done|simp[oneCell,znp]) only[go_sem,b2,b4,b5,hbl,st6,Nat.zero_add]
 refine⟨⟨.inl (show Nat.testBit 524287 9=true by decide),.inl (show Nat.testBit 524287 7=true by decide),.inl (show Nat.testBit 524287 5=true by decide),.inl (show Nat.testBit 524287 2=true by decide),trivial⟩,?_⟩
 simp -dsimp -implicitDefEqProofs (maxSteps:=2000000) (disch:=first|assumption|omega|simp only[nx];omega|(repeat apply zfp);assumption|simp only[smA];done|simp[oneCell,znp]) only[go_sem,st7]
 refine leftX_done ?_
 rw[harg]
 refine DefT.mono (defer_okV w1.next 0 _ w7 O27 (.inl rfl)) ?_
 rintro bb w' (⟨_,rfl,rfl⟩|⟨q,_⟩)
 rotate_left
 . cases q
 have c0:=O27.cell (o:=0) rfl rfl
 refine⟨rfl,[.int .i64 0],?_,by rw[hb];rfl,mAll,fun _=>L7⟩
 show aresults (prg Tryz.prog) true _ _ Tryz.f104.results.toList=_
 rw[Tryz.results104]
 simp -dsimp -implicitDefEqProofs (maxSteps:=2000000) (disch:=first|assumption|omega|simp only[nx];omega|(repeat apply zfp);assumption|simp only[smA];done|simp[oneCell,znp]) only[go_sem,c0]
end
end Go.Proofs

namespace Go.Proofs
open Go Go.RowKit Go.Sim
set_option maxRecDepth 100000
structure CarI where
 day:Int
 kind:Int
 bag:Int
 to:Int
 ca:Int
 cb:Int
 sl:Int
 suits:Int
def carIC (c:CarI):List Value:=[.int .i64 c.day,.int .i64 c.kind,.int .i64 c.bag,.int .i64 c.to,.int .i64 c.ca,.int .i64 c.cb,.int .i64 c.sl,.int .i64 c.suits]
theorem carIC_len (c:CarI):(carIC c).length=8:=rfl
def toB (k:Int):Bool:=decide (k=1) || decide (k=2)
def slB (k:Int):Bool:=decide (k=1) || (decide (k=3) || decide (k=4))
def suB (k:Int):Bool:=decide (k=1)
def fieldB (n:Int) (there:Bool) (most:Int):Bool:=bif there then inR 1 n most else decide (n=0)
def carryB (s:StrN) (c:CarI):Bool :=
 inR 1 c.kind 5 && (inR 0 c.bag 31 && (inR 0 c.ca ((s.staff.length:Int) - 1) && (inR 0 c.cb ((s.staff.length:Int) - 1) && (!decide (c.ca=c.cb) &&
  (fieldB c.to (toB c.kind) ((s.rooms.length:Int) - 1) && (fieldB c.sl (slB c.kind) 999999 && fieldB c.suits (suB c.kind) 15))))))
theorem isField_ok (n:Int) (t:Bool) (m:Int) (w:AW):CallT Tryz.prog Tryz.T1 (.fn (.func 145) #[]) #[.int .i64 n,.bool t,.int .i64 m] w (Ret (.bool (fieldB n t m)) fun w'=>w=w'):=by
 refine callT_code rfl Tryz.func145 rfl Tryz.s145_eq rfl ?_
 delta Tryz.s145 zo zv zk
 cases t with
 | false =>
  simp -dsimp -implicitDefEqProofs (maxSteps:=2000000) (disch:=first|assumption|omega|simp only[nx];omega|(repeat apply zfp);assumption|simp only[smA];done|simp[oneCell,znp]) only[go_sem]
  exact⟨rfl,rfl⟩
 | true =>
  simp -dsimp -implicitDefEqProofs (maxSteps:=2000000) (disch:=first|assumption|omega|simp only[nx];omega|(repeat apply zfp);assumption|simp only[smA];done|simp[oneCell,znp]) only[go_sem]
  apply callV_of (e:=rfl)
  . exact within_okV _ _ _ w
  rintro _ _ ⟨rfl,rfl⟩
  simp -dsimp -implicitDefEqProofs (maxSteps:=2000000) (disch:=first|assumption|omega|simp only[nx];omega|(repeat apply zfp);assumption|simp only[smA];done|simp[oneCell,znp]) only[go_sem]
  exact⟨rfl,rfl⟩
theorem bld171_1:bldQ [(0,1),(1,1),(2,1)] [.bool false,.bool false,.bool false] [(0,.bool true),(1,.bool true),(2,.bool true)]=some (.agg #[.bool true,.bool true,.bool true]):=by kernel_rfl
theorem bld171_2:bldQ [(0,1),(1,1),(2,1)] [.bool false,.bool false,.bool false] [(0,.bool true)]=some (.agg #[.bool true,.bool false,.bool false]):=by kernel_rfl
theorem bld171_3:bldQ [(0,1),(1,1),(2,1)] [.bool false,.bool false,.bool false] [(1,.bool true)]=some (.agg #[.bool false,.bool true,.bool false]):=by kernel_rfl
attribute [go_sem] bld171_1 bld171_2 bld171_3
set_option maxHeartbeats 8000000 in
theorem fieldsOf_ok (k:Int) (w:AW) (f:Fresh w):CallT Tryz.prog Tryz.T1 (.fn (.func 144) #[]) #[.int .i64 k] w (Ret (.tuple #[.agg #[.bool (toB k),.bool (slB k),.bool (suB k)],.bool (inR 1 k 5)]) (Grown w)):=by
 have g1:=(Grown.refl f).push (.cells [.bool false,.bool false,.bool false] 171 w.next 0 0)
 have O1:=Own.new f 171 [.bool false,.bool false,.bool false]
 have go:∀ a b c:Bool,∃ w',storeV (w.push (.cells [.bool false,.bool false,.bool false] 171 w.next 0 0)) true 3 (.pointer (some ⟨w.next,0,none⟩)) (.agg #[.bool a,.bool b,.bool c])=some w'/\Own w' w.next 171 [.bool a,.bool b,.bool c]/\Grown w w':=by
  intro a b c
  obtain⟨w',st,O,m,n⟩:=store_new (n:=3) (l:=[.bool a,.bool b,.bool c]) g1.2 O1 rfl rfl (by omega) rfl
  exact⟨w',st,O,⟨g1.1.trans (m.keep (fun j q=>by omega) g1.1.next),m.fresh⟩⟩
 have hin:¬ (k=1 \/ k=2 \/ k=3 \/ k=4 \/ k=5)->inR 1 k 5=false:=fun h=>by
  rw[Bool.eq_false_iff];intro q;rw[inR_iff]at q;omega
 obtain⟨wa,sa,Oa,ga⟩:=go (toB k) (slB k) (suB k)
 have la:=loadAll Oa (n:=3) rfl (by simp[oneCell])
 refine callT_code rfl Tryz.func144 rfl Tryz.s144_eq rfl ?_
 delta Tryz.s144 zo zon zv zk
 by_cases k1:k=1
 . subst k1
   have hl:inR 1 1 5=true:=rfl
   have e1:toB 1=true:=rfl
   have e2:slB 1=true:=rfl
   have e3:suB 1=true:=rfl
   rw[e1,e2,e3]at sa la
   rw[e1,e2,e3,hl]
   simp -dsimp -implicitDefEqProofs (maxSteps:=2000000) (disch:=first|assumption|omega|simp only[nx];omega|(repeat apply zfp);assumption|simp only[smA];done|simp[oneCell,znp]) only[go_sem,sa,la]
   exact⟨rfl,ga⟩
 by_cases k2:k=2
 . subst k2
   have e0:¬ (2:Int)=1:=by omega
   have hl:inR 1 2 5=true:=rfl
   have e1:toB 2=true:=rfl
   have e2:slB 2=false:=rfl
   have e3:suB 2=false:=rfl
   rw[e1,e2,e3]at sa la
   rw[e1,e2,e3,hl]
   simp -dsimp -implicitDefEqProofs (maxSteps:=2000000) (disch:=first|assumption|omega|simp only[nx];omega|(repeat apply zfp);assumption|simp only[smA];done|simp[oneCell,znp]) only[go_sem,sa,la,e0]
   exact⟨rfl,ga⟩
 by_cases k3:k=3
 . subst k3
   have e0:¬ (3:Int)=1:=by omega
   have e4:¬ (3:Int)=2:=by omega
   have hl:inR 1 3 5=true:=rfl
   have e1:toB 3=false:=rfl
   have e2:slB 3=true:=rfl
   have e3:suB 3=false:=rfl
   rw[e1,e2,e3]at sa la
   rw[e1,e2,e3,hl]
   simp -dsimp -implicitDefEqProofs (maxSteps:=2000000) (disch:=first|assumption|omega|simp only[nx];omega|(repeat apply zfp);assumption|simp only[smA];done|simp[oneCell,znp]) only[go_sem,sa,la,e0,e4]
   exact⟨rfl,ga⟩
 by_cases k4:k=4
 . subst k4
   have e0:¬ (4:Int)=1:=by omega
   have e4:¬ (4:Int)=2:=by omega
   have e5:¬ (4:Int)=3:=by omega
   have hl:inR 1 4 5=true:=rfl
   have e1:toB 4=false:=rfl
   have e2:slB 4=true:=rfl
   have e3:suB 4=false:=rfl
   rw[e1,e2,e3]at sa la
   rw[e1,e2,e3,hl]
   simp -dsimp -implicitDefEqProofs (maxSteps:=2000000) (disch:=first|assumption|omega|simp only[nx];omega|(repeat apply zfp);assumption|simp only[smA];done|simp[oneCell,znp]) only[go_sem,sa,la,e0,e4,e5]
   exact⟨rfl,ga⟩
 by_cases k5:k=5
 . subst k5
   have e0:¬ (5:Int)=1:=by omega
   have e4:¬ (5:Int)=2:=by omega
   have e5:¬ (5:Int)=3:=by omega
   have e6:¬ (5:Int)=4:=by omega
   have hl:inR 1 5 5=true:=rfl
   have e1:toB 5=false:=rfl
   have e2:slB 5=false:=rfl
   have e3:suB 5=false:=rfl
   rw[e1,e2,e3]at sa la
   rw[e1,e2,e3,hl]
   simp -dsimp -implicitDefEqProofs (maxSteps:=2000000) (disch:=first|assumption|omega|simp only[nx];omega|(repeat apply zfp);assumption|simp only[smA];done|simp[oneCell,znp]) only[go_sem,sa,la,e0,e4,e5,e6]
   exact⟨rfl,ga⟩
 have hl:=hin (by omega)
 have e1:toB k=false:=by simp[toB,k1,k2]
 have e2:slB k=false:=by simp[slB,k1,k3,k4]
 have e3:suB k=false:=by simp[suB,k1]
 rw[e1,e2,e3]at sa la
 rw[e1,e2,e3,hl]
 simp -dsimp -implicitDefEqProofs (maxSteps:=2000000) (disch:=first|assumption|omega|simp only[nx];omega|(repeat apply zfp);assumption|simp only[smA];done|simp[oneCell,znp]) only[go_sem,sa,la,k1,k2,k3,k4,k5]
 exact⟨rfl,ga⟩
set_option maxHeartbeats 16000000 in
theorem isCarry_ok {s:StrN} (hs:strB s=true) (pR pG pS:Option Addr) (cR cG cS:Nat) (c:CarI) (w:AW) (f:Fresh w):CallT Tryz.prog Tryz.T1 (.fn (.func 121) #[]) #[.agg (strC pR pG pS cR cG cS s).toArray,.agg (carIC c).toArray] w (Ret (.bool (carryB s c)) (Grown w)):=by
 have hsl:=(str_staff hs).2.1
 have hrl:=(str_rooms hs).2
 have g1:=(Grown.refl f).push (.cells (strC pR pG pS cR cG cS s) 26 w.next 0 0)
 have O1:=Own.new f 26 (strC pR pG pS cR cG cS s)
 have hn1:(w.push (.cells (strC pR pG pS cR cG cS s) 26 w.next 0 0)).next=w.next+1:=AW.next_push _ _
 obtain⟨w1,hw1⟩:∃ w1,w.push (.cells (strC pR pG pS cR cG cS s) 26 w.next 0 0)=w1:=⟨_,rfl⟩
 rw[hw1]at g1 O1 hn1
 have g2:=g1.push (.cells (carIC c) 62 w1.next 0 0)
 have O2:=Own.new g1.2 62 (carIC c)
 have O12:=O1.push (.cells (carIC c) 62 w1.next 0 0)
 have hn2:(w1.push (.cells (carIC c) 62 w1.next 0 0)).next=w1.next+1:=AW.next_push _ _
 obtain⟨w2,hw2⟩:∃ w2,w1.push (.cells (carIC c) 62 w1.next 0 0)=w2:=⟨_,rfl⟩
 rw[hw2]at g2 O2 O12 hn2
 have k1:=O2.cell (o:=1) (v:=.int .i64 c.kind) rfl rfl
 have f1:=g1.2
 have hC:carryB s c=(inR 1 c.kind 5 && (inR 0 c.bag 31 && (inR 0 c.ca ((s.staff.length:Int) - 1) && (inR 0 c.cb ((s.staff.length:Int) - 1) && (!decide (c.ca=c.cb) && (fieldB c.to (toB c.kind) ((s.rooms.length:Int) - 1) && (fieldB c.sl (slB c.kind) 999999 && fieldB c.suits (suB c.kind) 15))))))):=rfl
 generalize carryB s c=C at *
 unfold strC carIC at *
 refine callT_code rfl Tryz.func121 rfl Tryz.s121_eq rfl ?_
 delta Tryz.s121 zo zt zg zh zon zv zk
 simp -dsimp -implicitDefEqProofs (maxSteps:=2000000) (disch:=first|assumption|omega|simp only[nx];omega|(repeat apply zfp);assumption|simp only[smA];done|simp[oneCell,znp]) only[go_sem,hw1,hw2,k1,Nat.zero_add]
 rw[hw1,hw2]
 apply callV_of (e:=rfl)
 . exact fieldsOf_ok c.kind w2 g2.2
 rintro _ w3 ⟨rfl,g3⟩
 have O13:=O12.keep g3.1
 have O23:=O2.keep g3.1
 have gg3:=g2.trans g3
 have f3:=gg3.2
 have O3:=Own.new gg3.2 171 [.bool false,.bool false,.bool false]
 have g4:=gg3.push (.cells [.bool false,.bool false,.bool false] 171 w3.next 0 0)
 have O14:=O13.push (.cells [.bool false,.bool false,.bool false] 171 w3.next 0 0)
 have O24:=O23.push (.cells [.bool false,.bool false,.bool false] 171 w3.next 0 0)
 obtain⟨w4,hw4⟩:∃ w4,w3.push (.cells [.bool false,.bool false,.bool false] 171 w3.next 0 0)=w4:=⟨_,rfl⟩
 rw[hw4]at O3 g4 O14 O24
 have hle3:=gg3.1.next
 have hle33:=g3.1.next
 obtain⟨w5,st5,O5,m5,hn5⟩:=store_new (n:=3) (l:=[.bool (toB c.kind),.bool (slB c.kind),.bool (suB c.kind)]) g4.2 O3 rfl rfl (by omega) rfl
 have O15:=m5.own O14 (fun q=>by omega)
 have O25:=m5.own O24 (fun q=>by omega)
 have g5:Grown w w5:=⟨g4.1.trans (m5.keep (fun j q=>by have:j=w3.next:=q;omega) g4.1.next),m5.fresh⟩
 have f5:=g5.2
 have p0:=O15.cell (o:=0) (v:=.slice pR s.rooms.length cR) rfl rfl
 have p2:=O15.cell (o:=2) (v:=.slice pS s.staff.length cS) rfl rfl
 have a2:=O25.cell (o:=2) (v:=.int .i64 c.bag) rfl rfl
 have a3:=O25.cell (o:=3) (v:=.int .i64 c.to) rfl rfl
 have a4:=O25.cell (o:=4) (v:=.int .i64 c.ca) rfl rfl
 have a5:=O25.cell (o:=5) (v:=.int .i64 c.cb) rfl rfl
 have a6:=O25.cell (o:=6) (v:=.int .i64 c.sl) rfl rfl
 have a7:=O25.cell (o:=7) (v:=.int .i64 c.suits) rfl rfl
 have b0:=O5.cell (o:=0) (v:=.bool (toB c.kind)) rfl rfl
 have b1:=O5.cell (o:=1) (v:=.bool (slB c.kind)) rfl rfl
 have b2:=O5.cell (o:=2) (v:=.bool (suB c.kind)) rfl rfl
 have hsr:=same_s12V pR s.rooms.length cR
 have hleW:WLe w5 w5:=(Grown.refl f5).1.wle f5
 cases h1:inR 1 c.kind 5 with
 | false =>
  rw[h1,Bool.false_and]at hC
  subst hC
  simp -dsimp -implicitDefEqProofs (maxSteps:=2000000) (disch:=first|assumption|omega|simp only[nx];omega|(repeat apply zfp);assumption|simp only[smA];done|simp[oneCell,znp]) only[go_sem,hw4,st5,p0,p2,a2,a3,a4,a5,a6,a7,b0,b1,b2,hsr,Nat.zero_add,hleW]
  exact⟨rfl,g5⟩
 | true =>
 rw[h1,Bool.true_and]at hC
 have e32:((32:Int) - 1)=31:=rfl
 simp -dsimp -implicitDefEqProofs (maxSteps:=2000000) (disch:=first|assumption|omega|simp only[nx];omega|(repeat apply zfp);assumption|simp only[smA];done|simp[oneCell,znp]) only[go_sem,hw4,st5,p0,p2,a2,a3,a4,a5,a6,a7,b0,b1,b2,hsr,Nat.zero_add,hleW]
 apply callV_of (e:=rfl)
 . exact isIndex_ok c.bag 32 (by omega) w5
 rintro _ _ ⟨rfl,rfl⟩
 rw[e32]
 cases h2:inR 0 c.bag 31 with
 | false =>
  rw[h2,Bool.false_and]at hC
  subst hC
  simp -dsimp -implicitDefEqProofs (maxSteps:=2000000) (disch:=first|assumption|omega|simp only[nx];omega|(repeat apply zfp);assumption|simp only[smA];done|simp[oneCell,znp]) only[go_sem,hw4,st5,p0,p2,a2,a3,a4,a5,a6,a7,b0,b1,b2,hsr,Nat.zero_add,hleW]
  exact⟨rfl,g5⟩
 | true =>
 rw[h2,Bool.true_and]at hC
 simp -dsimp -implicitDefEqProofs (maxSteps:=2000000) (disch:=first|assumption|omega|simp only[nx];omega|(repeat apply zfp);assumption|simp only[smA];done|simp[oneCell,znp]) only[go_sem,hw4,st5,p0,p2,a2,a3,a4,a5,a6,a7,b0,b1,b2,hsr,Nat.zero_add,hleW]
 apply callV_of (e:=rfl)
 . exact isIndex_ok c.ca (s.staff.length:Int) (by omega) w5
 rintro _ _ ⟨rfl,rfl⟩
 cases h3:inR 0 c.ca ((s.staff.length:Int) - 1) with
 | false =>
  rw[h3,Bool.false_and]at hC
  subst hC
  simp -dsimp -implicitDefEqProofs (maxSteps:=2000000) (disch:=first|assumption|omega|simp only[nx];omega|(repeat apply zfp);assumption|simp only[smA];done|simp[oneCell,znp]) only[go_sem,hw4,st5,p0,p2,a2,a3,a4,a5,a6,a7,b0,b1,b2,hsr,Nat.zero_add,hleW]
  exact⟨rfl,g5⟩
 | true =>
 rw[h3,Bool.true_and]at hC
 simp -dsimp -implicitDefEqProofs (maxSteps:=2000000) (disch:=first|assumption|omega|simp only[nx];omega|(repeat apply zfp);assumption|simp only[smA];done|simp[oneCell,znp]) only[go_sem,hw4,st5,p0,p2,a2,a3,a4,a5,a6,a7,b0,b1,b2,hsr,Nat.zero_add,hleW]
 apply callV_of (e:=rfl)
 . exact isIndex_ok c.cb (s.staff.length:Int) (by omega) w5
 rintro _ _ ⟨rfl,rfl⟩
 cases h4:inR 0 c.cb ((s.staff.length:Int) - 1) with
 | false =>
  rw[h4,Bool.false_and]at hC
  subst hC
  simp -dsimp -implicitDefEqProofs (maxSteps:=2000000) (disch:=first|assumption|omega|simp only[nx];omega|(repeat apply zfp);assumption|simp only[smA];done|simp[oneCell,znp]) only[go_sem,hw4,st5,p0,p2,a2,a3,a4,a5,a6,a7,b0,b1,b2,hsr,Nat.zero_add,hleW]
  exact⟨rfl,g5⟩
 | true =>
 rw[h4,Bool.true_and]at hC
 cases h5:decide (c.ca=c.cb) with
 | true =>
  rw[h5]at hC
  simp only[Bool.not_true,Bool.false_and]at hC
  subst hC
  have hq:=of_decide_eq_true h5
  simp -dsimp -implicitDefEqProofs (maxSteps:=2000000) (disch:=first|assumption|omega|simp only[nx];omega|(repeat apply zfp);assumption|simp only[smA];done|simp[oneCell,znp]) only[go_sem,hw4,st5,p0,p2,a2,a3,a4,a5,a6,a7,b0,b1,b2,hsr,Nat.zero_add,hleW,hq]
  exact⟨rfl,g5⟩
 | false =>
 rw[h5]at hC
 simp only[Bool.not_false,Bool.true_and]at hC
 have hq:=of_decide_eq_false h5
 simp -dsimp -implicitDefEqProofs (maxSteps:=2000000) (disch:=first|assumption|omega|simp only[nx];omega|(repeat apply zfp);assumption|simp only[smA];done|simp[oneCell,znp]) only[go_sem,hw4,st5,p0,p2,a2,a3,a4,a5,a6,a7,b0,b1,b2,hsr,Nat.zero_add,hleW,hq]
 apply callV_of (e:=rfl)
 . exact isField_ok c.to (toB c.kind) ((s.rooms.length:Int) - 1) w5
 rintro _ _ ⟨rfl,rfl⟩
 cases h6:fieldB c.to (toB c.kind) ((s.rooms.length:Int) - 1) with
 | false =>
  rw[h6,Bool.false_and]at hC
  subst hC
  simp -dsimp -implicitDefEqProofs (maxSteps:=2000000) (disch:=first|assumption|omega|simp only[nx];omega|(repeat apply zfp);assumption|simp only[smA];done|simp[oneCell,znp]) only[go_sem,hw4,st5,p0,p2,a2,a3,a4,a5,a6,a7,b0,b1,b2,hsr,Nat.zero_add,hleW,hq]
  exact⟨rfl,g5⟩
 | true =>
 rw[h6,Bool.true_and]at hC
 simp -dsimp -implicitDefEqProofs (maxSteps:=2000000) (disch:=first|assumption|omega|simp only[nx];omega|(repeat apply zfp);assumption|simp only[smA];done|simp[oneCell,znp]) only[go_sem,hw4,st5,p0,p2,a2,a3,a4,a5,a6,a7,b0,b1,b2,hsr,Nat.zero_add,hleW,hq]
 apply callV_of (e:=rfl)
 . exact isField_ok c.sl (slB c.kind) 999999 w5
 rintro _ _ ⟨rfl,rfl⟩
 cases h7:fieldB c.sl (slB c.kind) 999999 with
 | false =>
  rw[h7,Bool.false_and]at hC
  subst hC
  simp -dsimp -implicitDefEqProofs (maxSteps:=2000000) (disch:=first|assumption|omega|simp only[nx];omega|(repeat apply zfp);assumption|simp only[smA];done|simp[oneCell,znp]) only[go_sem,hw4,st5,p0,p2,a2,a3,a4,a5,a6,a7,b0,b1,b2,hsr,Nat.zero_add,hleW,hq]
  exact⟨rfl,g5⟩
 | true =>
 rw[h7,Bool.true_and]at hC
 simp -dsimp -implicitDefEqProofs (maxSteps:=2000000) (disch:=first|assumption|omega|simp only[nx];omega|(repeat apply zfp);assumption|simp only[smA];done|simp[oneCell,znp]) only[go_sem,hw4,st5,p0,p2,a2,a3,a4,a5,a6,a7,b0,b1,b2,hsr,Nat.zero_add,hleW,hq]
 apply callV_of (e:=rfl)
 . exact full_ok (n:=4) (by omega) w5
 rintro _ _ ⟨rfl,rfl⟩
 have h15:fullI 4=15:=rfl
 simp -dsimp -implicitDefEqProofs (maxSteps:=2000000) (disch:=first|assumption|omega|simp only[nx];omega|(repeat apply zfp);assumption|simp only[smA];done|simp[oneCell,znp]) only[go_sem,hw4,st5,p0,p2,a2,a3,a4,a5,a6,a7,b0,b1,b2,hsr,Nat.zero_add,hleW,hq,h15]
 apply callV_of (e:=rfl)
 . exact isField_ok c.suits (suB c.kind) 15 w5
 rintro _ _ ⟨rfl,rfl⟩
 simp -dsimp -implicitDefEqProofs (maxSteps:=2000000) (disch:=first|assumption|omega|simp only[nx];omega|(repeat apply zfp);assumption|simp only[smA];done|simp[oneCell,znp]) only[go_sem,hw4,st5,p0,p2,a2,a3,a4,a5,a6,a7,b0,b1,b2,hsr,Nat.zero_add,hleW,hq]
 exact⟨by rw[hC],g5⟩
def daysB (s:StrN) (d:Int):List CarI->Bool
 | []=>true
 | c :: L=>inR d c.day 36500 && (carryB s c && daysB s c.day L)
def areB (s:StrN) (L:List CarI):Bool:=decide (L.length≤64) && daysB s 0 L
def dayAt (L:List CarI) (i:Nat):Int:=(L.take i).getLast?.elim 0 CarI.day
theorem dayAt_succ {L:List CarI} {i:Nat} (h:i < L.length):dayAt L (i+1)=L[i].day:=by
 unfold dayAt
 rw[List.take_add_one,List.getElem?_eq_getElem h,Option.toList_some,List.getLast?_append,List.getLast?_singleton]
 rfl
theorem arr_row {α:Type} {w:AW} {z:Nat} {enc:α->List Value} {p:Option Addr} {cap:Nat} {xs:List α} (h:ArrOf w z enc (.slice p xs.length cap) xs) (hz:∀ x,(enc x).length=z) (h1:∀ x,∀ v ∈ enc x,oneCell v=true) {i:Nat} (hi:i < xs.length) :
    ∃ b o,p=some ⟨b,o,none⟩/\b < w.next/\∀ w',Keep w.next w w'->loadV w' true z (.pointer (some ⟨b,o+i * z,none⟩))=some (.agg (enc xs[i]).toArray):=by
 obtain⟨p',cap',e,_,_,hat⟩:=h.open
 injection e with e1 e2 e3
 subst e1 e3
 obtain⟨b,o,rfl,hb,hcell⟩:=hat i hi
 refine⟨b,o,rfl,hb,fun w' k=>?_⟩
 rw [loadV_row,<- hz xs[i],aCells_of (enc xs[i]) (o+i * (enc xs[i]).length) fun j v hv=>by
  have:=hcell w' k j v hv
  rw[hz xs[i]];exact this]
theorem carIC_one (c:CarI):∀ v ∈ carIC c,oneCell v=true:=by intro v hv;simp[carIC]at hv;rcases hv with rfl|rfl|rfl|rfl|rfl|rfl|rfl|rfl <;> rfl
def car0:CarI:=⟨0,0,0,0,0,0,0,0⟩
set_option maxHeartbeats 16000000 in
theorem areCarries_ok {s:StrN} (hs:strB s=true) (pR pG pS:Option Addr) (cR cG cS:Nat) (pL:Option Addr) (cL:Nat) (L:List CarI) (w:AW) (f:Fresh w) (hL:ArrOf w 8 carIC (.slice pL L.length cL) L) :
    CallT Tryz.prog Tryz.T1 (.fn (.func 103) #[]) #[.agg (strC pR pG pS cR cG cS s).toArray,.slice pL L.length cL] w (Ret (.bool (areB s L)) (Grown w)):=by
 have g1:=(Grown.refl f).push (.cells (strC pR pG pS cR cG cS s) 26 w.next 0 0)
 have O1:=Own.new f 26 (strC pR pG pS cR cG cS s)
 obtain⟨w1,hw1⟩:∃ w1,w.push (.cells (strC pR pG pS cR cG cS s) 26 w.next 0 0)=w1:=⟨_,rfl⟩
 rw[hw1]at g1 O1
 have hL1:=hL.grown g1
 have hic:=fun (c:CarI) w' f'=>isCarry_ok hs pR pG pS cR cG cS c w' f'
 have hls:=fun w' (O:Own w' w.next 26 (strC pR pG pS cR cG cS s))=>loadAll O (n:=3) rfl (by simp[strC,oneCell])
 have hss:=same_str pR pG pS s.rooms.length s.gates.length s.staff.length cR cG cS
 unfold strC at *
 refine callT_code rfl Tryz.func103 rfl Tryz.s103_eq rfl ?_
 delta Tryz.s103 zo zg zon zv zk
 by_cases h64:L.length≤64
 case neg =>
  have hd:(64:Int) < (L.length:Int):=by omega
  have hA:areB s L=false:=by unfold areB;rw[decide_eq_false h64];rfl
  rw[hA]
  simp -dsimp -implicitDefEqProofs (maxSteps:=2000000) (disch:=first|assumption|omega|simp only[nx];omega|(repeat apply zfp);assumption|simp only[smA];done|simp[oneCell,znp]) only[go_sem,hw1,hd]
  exact⟨rfl,g1⟩
 have hd:¬ (64:Int) < (L.length:Int):=by omega
 have hA:areB s L=daysB s 0 L:=by unfold areB;rw[decide_eq_true h64];rfl
 simp -dsimp -implicitDefEqProofs (maxSteps:=2000000) (disch:=first|assumption|omega|simp only[nx];omega|(repeat apply zfp);assumption|simp only[smA];done|simp[oneCell,znp]) only[go_sem,hw1,hd]
 rw[hw1]
 have hst:daysB s 0 L=daysB s (dayAt L 0) (L.drop 0):=rfl
 refine loopR (fun k t ds w2=>∃ i:Nat,i≤L.length/\k=L.length - i/\ds=[]/\ev t (.tmp 2)=.pointer (some ⟨w.next,0,none⟩)/\ev t (.tmp 5)=.int .i64 (dayAt L i)/\ev t (.tmp 11)=.slice pL L.length cL/\ev t (.tmp 12)=.int .i64 (L.length:Int)/\ev t (.tmp 13)=.int .i64 (i:Int)/\daysB s 0 L=daysB s (dayAt L i) (L.drop i)/\Keep w1.next w1 w2/\Fresh w2) (L.length) ?_ ?_
 . refine⟨0,by omega,by omega,rfl,?_,?_,?_,?_,?_,hst,.refl _ _,g1.2⟩ <;> simp -dsimp -implicitDefEqProofs (maxSteps:=2000000) (disch:=first|assumption|omega|simp only[nx];omega|(repeat apply zfp);assumption|simp only[smA];done|simp[oneCell,znp]) only[go_sem] <;> rfl
 rintro k t ds w2 ⟨i,hii,rfl,rfl,e2,e5,e11,e12,e13,hD,k2,f2⟩
 have gW:Grown w1 w2:=⟨k2,f2⟩
 have gg:=g1.trans gW
 by_cases hlt:(i:Int) < (L.length:Int)
 case neg =>
  obtain rfl:i=L.length:=by omega
  rw[List.drop_length]at hD
  rw[hA,hD]
  simp -dsimp -implicitDefEqProofs (maxSteps:=2000000) (disch:=first|assumption|omega|simp only[nx];omega|(repeat apply zfp);assumption|simp only[smA];done|simp[oneCell,znp]) only[go_sem,e2,e5,e11,e12,e13,hlt]
  exact⟨rfl,gg⟩
 have hi:i < L.length:=by omega
 obtain⟨b4,o4,rfl,hb4,hrow⟩:=arr_row hL1 carIC_len carIC_one hi
 have hld:=hrow w2 k2
 rw[List.drop_eq_getElem_cons hi]at hD
 have hsucc:=dayAt_succ hi
 have hic2:=fun w' f'=>hic L[i] w' f'
 generalize L[i]=c at *
 simp only[daysB]at hD
 have O12:=O1.keep k2
 have O3:=Own.new f2 62 (carIC car0)
 have g3:=gW.push (.cells (carIC car0) 62 w2.next 0 0)
 have O13:=O12.push (.cells (carIC car0) 62 w2.next 0 0)
 have hn3:(w2.push (.cells (carIC car0) 62 w2.next 0 0)).next=w2.next+1:=AW.next_push _ _
 obtain⟨w3,hw3⟩:∃ w3,w2.push (.cells (carIC car0) 62 w2.next 0 0)=w3:=⟨_,rfl⟩
 rw[hw3]at O3 g3 O13 hn3
 have hk2:=k2.next
 have hwn:=g1.1.next
 have hOl:=O12.lt
 obtain⟨w4,st4,O4,m4,hn4⟩:=store_new (n:=8) (l:=carIC c) g3.2 O3 rfl rfl (by omega) rfl
 have O14:=m4.own O13 (fun q=>by omega)
 have g4:Grown w1 w4:=⟨g3.1.trans (m4.keep (fun j q=>by have:j=w2.next:=q;omega) g3.1.next),m4.fresh⟩
 have d0:=O4.cell (o:=0) (v:=.int .i64 c.day) rfl rfl
 have hl4:=hls w4 O14
 have hld4:=loadAll O4 (n:=8) rfl (carIC_one c)
 have f4:=g4.2
 have hle4:WLe w4 w4:=(Grown.refl f4).1.wle f4
 unfold carIC car0 at *
 simp -dsimp -implicitDefEqProofs (maxSteps:=2000000) (disch:=first|assumption|omega|simp only[nx];omega|(repeat apply zfp);assumption|simp only[smA];done|simp[oneCell,znp]) only[go_sem,e2,e5,e11,e12,e13,hlt,indexV_eq,hld,hw3,st4,d0,Nat.zero_add]
 apply callV_of (e:=rfl)
 . exact within_okV c.day (dayAt L i) 36500 w4
 rintro _ _ ⟨rfl,rfl⟩
 cases h1:inR (dayAt L i) c.day 36500 with
 | false =>
  rw[h1,Bool.false_and]at hD
  rw[hA,hD]
  simp -dsimp -implicitDefEqProofs (maxSteps:=2000000) (disch:=first|assumption|omega|simp only[nx];omega|(repeat apply zfp);assumption|simp only[smA];done|simp[oneCell,znp]) only[go_sem,e2,e5,e11,e12,e13]
  exact⟨rfl,g1.trans g4⟩
 | true =>
 rw[h1,Bool.true_and]at hD
 simp -dsimp -implicitDefEqProofs (maxSteps:=2000000) (disch:=first|assumption|omega|simp only[nx];omega|(repeat apply zfp);assumption|simp only[smA];done|simp[oneCell,znp]) only[go_sem,e2,e5,e11,e12,e13,hl4,hld4,hss]
 apply callV_of (e:=rfl)
 . exact hic2 w4 f4
 rintro _ w5 ⟨rfl,g5⟩
 have g5':=g4.trans g5
 have O45:=O4.keep g5.1
 have d05:=O45.cell (o:=0) (v:=.int .i64 c.day) rfl rfl
 cases h2:carryB s c with
 | false =>
  rw[h2,Bool.false_and]at hD
  rw[hA,hD]
  simp -dsimp -implicitDefEqProofs (maxSteps:=2000000) (disch:=first|assumption|omega|simp only[nx];omega|(repeat apply zfp);assumption|simp only[smA];done|simp[oneCell,znp]) only[go_sem,e2,e5,e11,e12,e13]
  exact⟨rfl,g1.trans g5'⟩
 | true =>
 rw[h2,Bool.true_and]at hD
 simp -dsimp -implicitDefEqProofs (maxSteps:=2000000) (disch:=first|assumption|omega|simp only[nx];omega|(repeat apply zfp);assumption|simp only[smA];done|simp[oneCell,znp]) only[go_sem,e2,e5,e11,e12,e13,d05,Nat.zero_add]
 refine⟨_,by omega,i+1,by omega,rfl,rfl,by(simp only[go_sem,e2,hsucc];try rfl),by(simp only[go_sem,e5,hsucc];try rfl),by(simp only[go_sem,e11,hsucc];try rfl),by(simp only[go_sem,e12,hsucc];try rfl),by(simp only[go_sem,e13,hsucc];try rfl),by rw[hD,hsucc],g5'.1,g5'.2⟩
def uptoN (day:Int):List CarI->Nat
 | []=>0
 | c :: L=>if c.day≤day then uptoN day L+1 else 0
theorem uptoN_le (day:Int):∀ L:List CarI,uptoN day L≤L.length
 | []=>Nat.le_refl _
 | c :: L=>by
  have:=uptoN_le day L
  unfold uptoN
  split <;> simp <;> omega
def Pre (w:AW) (p:Option Addr) (n c:Nat):Prop :=
 ((p=none \/ p=some ⟨0,0,some 0⟩)/\n=0/\c=0) \/ ∃ b o,p=some ⟨b,o,none⟩/\n≤c/\b < w.next/\((∃ cs,w.blk b=some (.given cs)) \/ ∃ cells e r k z,w.blk b=some (.cells cells e r k z)/\(z=8 \/ z=0))
def stepE (s:StrN) (x:LogN) (c:CarN):Nat :=
 if c.kind=1 then bringE s x c else if c.kind=2 then moveE s x c else if c.kind=3 then checkE s x c else if c.kind=4 then openE s x c else needE s x c
def stepK (x:LogN) (c:CarN):LogN :=
 if c.kind=1 then bringN x c else if c.kind=2 then moveN x c else if c.kind=3 then x.settle c.bag else if c.kind=4 then x.sealed c else takeN x c
def stepN (x:LogN) (c:CarN):LogN:=doneN (stepK x c) c
theorem LogIn.putv {s:StrN} {x:LogN} (h:LogIn s x) (hk:LogOk x) (i:Nat) (hi:i < 32) (k v:Nat) (hr:k=0->v < s.rooms.length) (hs:k ≠ 2):LogIn s (x.put i k v):=by
 obtain⟨h1,h2⟩:=h.bag hk i hi
 have hb:((x.bag i).put k v).room < s.rooms.length/\((x.bag i).put k v).suits < 16:=by
  unfold BagN.put
  split
  . exact⟨hr rfl,h2⟩
  . exact⟨h1,h2⟩
  . exact absurd rfl hs
  . exact⟨h1,h2⟩
  . exact⟨h1,h2⟩
 refine⟨fun b hb'=>?_,fun b hb'=>?_,h.trail⟩
 . rcases List.mem_or_eq_of_mem_set hb' with q|rfl
   . exact h.room b q
   . exact hb.1
 . rcases List.mem_or_eq_of_mem_set hb' with q|rfl
   . exact h.suits b q
   . exact hb.2
theorem LogOk.placed {x:LogN} (h:LogOk x) (c:CarN) (y:BagN):LogOk (x.placed c y):=⟨by show (x.bags.set _ _).length=32;rw[List.length_set];exact h.bags,h.trails⟩
theorem LogOk.settle {x:LogN} (h:LogOk x) (i:Nat):LogOk (x.settle i):=h.mark _ _
theorem LogOk.seals {x:LogN} (h:LogOk x) (l:List Nat):LogOk { x with seals:=l }:=⟨h.bags,h.trails⟩
theorem LogOk.sealed {x:LogN} (h:LogOk x) (c:CarN):LogOk (x.sealed c):=((h.seals _).put _ _ _).settle _
theorem LogOk.done {x:LogN} (h:LogOk x) (c:CarN):LogOk (doneN x c):=(h.put _ _ _).put _ _ _
theorem LogOk.step {x:LogN} (h:LogOk x) (c:CarN):LogOk (stepN x c):=by
 refine LogOk.done ?_ c
 unfold stepK
 split
 . exact (h.placed c _).sealed c
 split
 . exact (h.placed c _).mark _ _
 split
 . exact h.settle _
 split
 . exact h.sealed c
 . exact (h.put _ _ _).put _ _ _
theorem LogIn.seals {s:StrN} {x:LogN} (h:LogIn s x) (l:List Nat):LogIn s { x with seals:=l }:=⟨h.room,h.suits,h.trail⟩
theorem LogIn.sealed {s:StrN} {x:LogN} (hs:strB s=true) (h:LogIn s x) (hk:LogOk x) (c:CarN) (hc:c.bag < 32):LogIn s (x.sealed c) :=
 LogIn.settle hs (((h.seals _).put1 (hk.seals _) _ _ hc)) ((hk.seals _).put _ _ _) _ hc
theorem LogIn.step {s:StrN} {x:LogN} (hs:strB s=true) (h:LogIn s x) (hk:LogOk x) (c:CarN) (hc:CarOk s c):LogIn s (stepN x c)/\LogOk (stepN x c):=by
 refine⟨?_,hk.step c⟩
 have hrl:=str_rooms hs
 have key:LogIn s (stepK x c)/\LogOk (stepK x c):=by
  unfold stepK
  split
  . exact⟨LogIn.sealed hs (h.placed c hc hc.suits) (hk.placed c _) c hc.bag,(hk.placed c _).sealed c⟩
  split
  · have h2:=h.placed c hc (y:=x.bag c.bag) (h.bag hk c.bag hc.bag).2
    refine⟨⟨h2.room,h2.suits,fun t ht=>?_⟩,(hk.placed c _).mark _ _⟩
    rcases List.mem_or_eq_of_mem_set ht with q|rfl
    . exact h2.trail t q
    . have hto:=hc.to
      refine Nat.or_lt_two_pow (n:=6) ?_ (pow_lt6 (by omega))
      have hb:c.bag < x.trails.length:=by rw[hk.trails];exact hc.bag
      have:x.trails.getD c.bag 0=x.trails[c.bag]:=by simp[List.getD,hb]
      rw[this]
      exact h.trail _ (List.getElem_mem hb)
  split
  . exact⟨LogIn.settle hs h hk _ hc.bag,hk.settle _⟩
  split
  . exact⟨LogIn.sealed hs h hk c hc.bag,hk.sealed c⟩
  . exact⟨(h.putv hk _ hc.bag 0 0 (fun _=>by omega) (by omega)).putv (hk.put _ _ _) _ hc.bag 1 0 (fun q=>by omega) (by omega),(hk.put _ _ _).put _ _ _⟩
 exact (key.1.putv key.2 _ hc.bag 3 _ (fun q=>by omega) (by omega)).putv (key.2.put _ _ _) _ hc.bag 4 _ (fun q=>by omega) (by omega)
section
variable {pR pG pS:Option Addr} {cR cG cS:Nat} {s:StrN} {b r:Nat} {x:LogN}
theorem do_okV (hs:strB s=true) (c:CarN) (hc:CarOk s c) (hk:1≤c.kind/\c.kind≤5) (hI:LogIn s x) (w:AW) (hL:LogAt w pR pG pS cR cG cS s b r x) (w0:AW) (g0:Grown w0 w) (hA:StrAt w0 pR pG pS cR cG cS s) (hN:NewLog w0 b r) :
    CallT Tryz.prog Tryz.T1 (.fn (.func 104) #[]) #[.pointer (some ⟨b,0,none⟩),carV c] w (fun v w'=>v=.int .i64 (stepE s x c:Int)/\MutL b r w w'/\(stepE s x c=0->LogAt w' pR pG pS cR cG cS s b r (stepN x c))):=by
 have h5:c.kind=1 \/ c.kind=2 \/ c.kind=3 \/ c.kind=4 \/ c.kind=5:=by omega
 unfold stepN
 rcases h5 with q|q|q|q|q
 . rw[show stepE s x c=bringE s x c by unfold stepE;rw[if_pos q],show stepK x c=bringN x c by unfold stepK;rw[if_pos q]]
   exact do_gen c hc 123 _ _ (bring_ok hs c hc hI) (by rw[q];rfl) w hL w0 g0 hA hN
 . rw[show stepE s x c=moveE s x c by unfold stepE;rw[if_neg (show ¬ c.kind=1 by omega),if_pos q],show stepK x c=moveN x c by unfold stepK;rw[if_neg (show ¬ c.kind=1 by omega),if_pos q]]
   exact do_gen c hc 124 _ _ (move_ok hs c hc hI) (by rw[q];rfl) w hL w0 g0 hA hN
 . rw[show stepE s x c=checkE s x c by unfold stepE;rw[if_neg (show ¬ c.kind=1 by omega),if_neg (show ¬ c.kind=2 by omega),if_pos q],show stepK x c=x.settle c.bag by unfold stepK;rw[if_neg (show ¬ c.kind=1 by omega),if_neg (show ¬ c.kind=2 by omega),if_pos q]]
   exact do_gen c hc 125 _ _ (check_ok125 hs c hc hI) (by rw[q];rfl) w hL w0 g0 hA hN
 . rw[show stepE s x c=openE s x c by unfold stepE;rw[if_neg (show ¬ c.kind=1 by omega),if_neg (show ¬ c.kind=2 by omega),if_neg (show ¬ c.kind=3 by omega),if_pos q],show stepK x c=x.sealed c by unfold stepK;rw[if_neg (show ¬ c.kind=1 by omega),if_neg (show ¬ c.kind=2 by omega),if_neg (show ¬ c.kind=3 by omega),if_pos q]]
   exact do_gen c hc 126 _ _ (open_ok126 hs c hc hI) (by rw[q];rfl) w hL w0 g0 hA hN
 . rw[show stepE s x c=needE s x c by unfold stepE;rw[if_neg (show ¬ c.kind=1 by omega),if_neg (show ¬ c.kind=2 by omega),if_neg (show ¬ c.kind=3 by omega),if_neg (show ¬ c.kind=4 by omega)],show stepK x c=takeN x c by unfold stepK;rw[if_neg (show ¬ c.kind=1 by omega),if_neg (show ¬ c.kind=2 by omega),if_neg (show ¬ c.kind=3 by omega),if_neg (show ¬ c.kind=4 by omega)]]
   exact do_gen c hc 127 _ _ (take_ok hs c hc hI) (by rw[q];rfl) w hL w0 g0 hA hN
end
end Go.Proofs

namespace Go.Proofs
open Go Go.RowKit Go.Sim
set_option maxRecDepth 100000
def x0:LogN:=⟨shelf0,List.replicate 32 0,[]⟩
def zs111:List Value:=List.replicate 3 (.slice none 0 0)++(List.replicate 192 (.int .i64 0)++[.map none])
theorem Tryz.bd111z (t:Tmps) (w:AW) (l:List (Nat × Operand)):fast (prg Tryz.prog) t w (.build 111 ⟨l⟩)=bldQ [(0,3),(3,160),(163,32),(195,1)] zs111 (l.map fun p=>(p.1,ev t p.2)):=Tryz.bd111 t w l
theorem bld111 (a b c:Value) (r:Nat):bldQ [(0,3),(3,160),(163,32),(195,1)] zs111 [(0,.agg #[a,b,c]),(3,.map (some r))]=some (.agg ([a,b,c]++(x0.bags.flatMap bagC++((natsL x0.trails).flatMap icells++[Value.map (some r)]))).toArray):=by kernel_rfl
attribute [go_sem] Tryz.bd111 Tryz.ty111
attribute [-go_sem] Tryz.bd111 Tryz.ty111
attribute [go_sem] Tryz.bd111z
def CarI.toN (c:CarI):CarN:=⟨c.day.toNat,c.kind.toNat,c.bag.toNat,c.to.toNat,c.ca.toNat,c.cb.toNat,c.sl.toNat,c.suits.toNat⟩
theorem carry_nat {s:StrN} (hs:strB s=true) {c:CarI} (h:carryB s c=true) (hd:0≤c.day):carIC c=carC c.toN/\CarOk s c.toN/\1≤c.toN.kind/\c.toN.kind≤5:=by
 have hr:=str_rooms hs
 unfold carryB at h
 simp only[Bool.and_eq_true,inR_iff,Bool.not_eq_true',decide_eq_false_iff_not]at h
 obtain⟨h1,h2,h3,h4,h5,h6,h7,h8⟩:=h
 have t1:0≤c.to/\c.to < (s.rooms.length:Int):=by
  unfold fieldB at h6
  cases q:toB c.kind with
  | true=>rw[q,cond_true,inR_iff]at h6;omega
  | false=>rw[q,cond_false]at h6;have:=of_decide_eq_true h6;omega
 have t2:0≤c.sl:=by
  unfold fieldB at h7
  cases q:slB c.kind with
  | true=>rw[q,cond_true,inR_iff]at h7;omega
  | false=>rw[q,cond_false]at h7;have:=of_decide_eq_true h7;omega
 have t3:0≤c.suits/\c.suits < 16:=by
  unfold fieldB at h8
  cases q:suB c.kind with
  | true=>rw[q,cond_true,inR_iff]at h8;omega
  | false=>rw[q,cond_false]at h8;have:=of_decide_eq_true h8;omega
 have cast:∀ n:Int,0≤n->((n.toNat:Nat):Int)=n:=fun n h=>by omega
 refine⟨?_,⟨?_,?_,?_,?_,?_⟩,?_,?_⟩
 . unfold carIC carC CarI.toN
   simp only[cast _ hd,cast c.kind (by omega),cast c.bag (by omega),cast c.to (by omega),cast c.ca (by omega),cast c.cb (by omega),cast c.sl (by omega),cast c.suits (by omega)]
 all_goals (simp only[CarI.toN];omega)
theorem days_all {s:StrN}:∀ (L:List CarI) (d:Int),0≤d->daysB s d L=true->∀ c ∈ L,carryB s c=true/\0≤c.day
 | [],_,_,_,c,hc=>by cases hc
 | a :: L,d,hd,h,c,hc=>by
  simp only[daysB,Bool.and_eq_true,inR_iff]at h
  obtain⟨h1,h2,h3⟩:=h
  rcases List.mem_cons.1 hc with rfl|q
  . exact⟨h2,by omega⟩
  . exact days_all L a.day (by omega) h3 c q
def goC (s:StrN):List CarI->Nat->LogN->Nat × Nat × LogN
 | [],i,x=>(i,0,x)
 | c :: L,i,x=>if stepE s x c.toN=0 then goC s L (i+1) (stepN x c.toN) else (i,stepE s x c.toN,x)
def runI (s:StrN) (L:List CarI):Nat × Nat × LogN :=
 if strB s=true then (if areB s L=true then goC s L 0 x0 else (0,43,x0)) else (0,40,x0)
theorem x0_ok:LogOk x0:=⟨rfl,rfl⟩
theorem x0_in {s:StrN} (hs:strB s=true):LogIn s x0:=by
 have hr:=str_rooms hs
 refine⟨fun b hb=>?_,fun b hb=>?_,fun t ht=>?_⟩
 . rw[(List.mem_replicate.1 hb).2];show 0 < _;omega
 . rw[(List.mem_replicate.1 hb).2];show 0 < _;omega
 . rw[(List.mem_replicate.1 ht).2];omega
def RunIs (w:AW) (pR pG pS:Option Addr) (cR cG cS:Nat) (s:StrN) (L:List CarI) (v:Value) (w':AW):Prop :=
 Grown w w'/\(((runI s L).2.1 ≠ 0/\v=.tuple #[.pointer none,.int .i64 ((runI s L).1:Int),.int .i64 ((runI s L).2.1:Int)]) \/
  ((runI s L).2.1=0/\(runI s L).1=L.length/\strB s=true/\areB s L=true/\∃ b r,NewLog w b r/\v=.tuple #[.pointer (some ⟨b,0,none⟩),.int .i64 (L.length:Int),.int .i64 0]/\LogAt w' pR pG pS cR cG cS s b r (runI s L).2.2/\LogIn s (runI s L).2.2))
set_option maxHeartbeats 32000000 in
theorem run_ok (s:StrN) (pR pG pS:Option Addr) (cR cG cS:Nat) (pL:Option Addr) (cL:Nat) (L:List CarI) (w:AW) (f:Fresh w) (hA:StrAt w pR pG pS cR cG cS s) (hL:ArrOf w 8 carIC (.slice pL L.length cL) L) :
    CallT Tryz.prog Tryz.T1 (.fn (.func 71) #[]) #[.agg (strC pR pG pS cR cG cS s).toArray,.slice pL L.length cL] w (RunIs w pR pG pS cR cG cS s L):=by
 have g1:=(Grown.refl f).push (.cells (strC pR pG pS cR cG cS s) 26 w.next 0 0)
 have O1:=Own.new f 26 (strC pR pG pS cR cG cS s)
 obtain⟨w1,hw1⟩:∃ w1,w.push (.cells (strC pR pG pS cR cG cS s) 26 w.next 0 0)=w1:=⟨_,rfl⟩
 rw[hw1]at g1 O1
 have hld:=loadAll O1 (n:=3) rfl (by simp[strC,oneCell])
 have hls:=fun w' (O:Own w' w.next 26 (strC pR pG pS cR cG cS s))=>loadAll O (n:=3) rfl (by simp[strC,oneCell])
 have hch:=CheckV_ok s pR pG pS cR cG cS w1 g1.2 (hA.grown g1)
 have har:=fun (hs:strB s=true) w' (g':Grown w w')=>areCarries_ok hs pR pG pS cR cG cS pL cL L w' g'.2 (hL.grown g')
 have hR:runI s L=if strB s=true then (if areB s L=true then goC s L 0 x0 else (0,43,x0)) else (0,40,x0):=rfl
 have hlog:∀ r,logC pR pG pS cR cG cS s r x0=[.slice pR s.rooms.length cR,.slice pG s.gates.length cG,.slice pS s.staff.length cS]++(x0.bags.flatMap bagC++((natsL x0.trails).flatMap icells++[Value.map (some r)])):=fun r=>rfl
 have hdo:=fun (hs:strB s=true) (x:LogN) (c:CarN) (hc:CarOk s c) hk (hI:LogIn s x) b r w' (hL:LogAt w' pR pG pS cR cG cS s b r x) (g':Grown w w') hN=>do_okV hs c hc hk hI w' hL w g' hA hN
 unfold RunIs
 unfold strC at *
 refine callT_code rfl Tryz.func71 rfl Tryz.s71_eq rfl ?_
 delta Tryz.s71 zo zon zv zk
 simp -dsimp -implicitDefEqProofs (maxSteps:=2000000) (disch:=first|assumption|omega|simp only[nx];omega|(repeat apply zfp);assumption|simp only[smA];done|simp[oneCell,znp]) only[go_sem,hw1,hld]
 rw[hw1]
 apply callV_of (e:=rfl)
 . exact hch
 rintro _ w2 ⟨rfl,g2⟩
 have O12:=O1.keep g2.1
 have gg2:=g1.trans g2
 have hl2:=hls w2 O12
 cases hs:strB s with
 | false =>
  rw[hs,if_neg (by intro z;cases z)]at hR
  have hE:strE s=40:=by unfold strE;rw[hs];rfl
  have h40:¬ (40:Int)=0:=by omega
  simp -dsimp -implicitDefEqProofs (maxSteps:=2000000) (disch:=first|assumption|omega|simp only[nx];omega|(repeat apply zfp);assumption|simp only[smA];done|simp[oneCell,znp]) only[go_sem,hE,h40]
  exact⟨gg2,.inl ⟨by rw[hR];show (40:Nat) ≠ 0;omega,by rw[hR];rfl⟩⟩
 | true =>
 rw[hs,if_pos rfl]at hR
 have hE:strE s=0:=by unfold strE;rw[hs];rfl
 simp -dsimp -implicitDefEqProofs (maxSteps:=2000000) (disch:=first|assumption|omega|simp only[nx];omega|(repeat apply zfp);assumption|simp only[smA];done|simp[oneCell,znp]) only[go_sem,hE,hl2]
 apply callV_of (e:=rfl)
 . exact har hs w2 gg2
 rintro _ w3 ⟨rfl,g3⟩
 have O13:=O12.keep g3.1
 have gg3:=gg2.trans g3
 have hl3:=hls w3 O13
 cases ha:areB s L with
 | false =>
  rw[ha,if_neg (by intro z;cases z)]at hR
  simp -dsimp -implicitDefEqProofs (maxSteps:=2000000) (disch:=first|assumption|omega|simp only[nx];omega|(repeat apply zfp);assumption|simp only[smA];done|simp[oneCell,znp]) only[go_sem]
  exact⟨gg3,.inl ⟨by rw[hR];show (43:Nat) ≠ 0;omega,by rw[hR];rfl⟩⟩
 | true =>
 rw[ha,if_pos rfl]at hR
 have hall:=days_all L 0 (by omega) (by unfold areB at ha;rw[Bool.and_eq_true]at ha;exact ha.2)
 have h64:L.length≤64:=by unfold areB at ha;rw[Bool.and_eq_true]at ha;exact of_decide_eq_true ha.1
 have g4:=gg3.push (.map #[] 0)
 have M4:MapI (w3.push (.map #[] 0)) w3.next (natsL []):=⟨⟨#[],0,blk_push_top _ _,rfl,by simp⟩,by rw[AW.next_push];omega⟩
 have O14:=O13.push (.map #[] 0)
 have hn4:(w3.push (.map #[] 0)).next=w3.next+1:=AW.next_push _ _
 have f3:=gg3.2
 obtain⟨w4,hw4⟩:∃ w4,w3.push (.map #[] 0)=w4:=⟨_,rfl⟩
 rw[hw4]at g4 M4 O14 hn4
 have f4:=g4.2
 have hbl:=bld111 (.slice pR s.rooms.length cR) (.slice pG s.gates.length cG) (.slice pS s.staff.length cS) w3.next
 rw[<- hlog]at hbl
 have g5:=g4.push (.cells (logC pR pG pS cR cG cS s w3.next x0) 111 w4.next 0 0)
 have O5:=Own.new g4.2 111 (logC pR pG pS cR cG cS s w3.next x0)
 have hn5:(w4.push (.cells (logC pR pG pS cR cG cS s w3.next x0) 111 w4.next 0 0)).next=w4.next+1:=AW.next_push _ _
 obtain⟨w5,hw5⟩:∃ w5,w4.push (.cells (logC pR pG pS cR cG cS s w3.next x0) 111 w4.next 0 0)=w5:=⟨_,rfl⟩
 have M5:MapI w5 w3.next (natsL []):=by
  obtain⟨⟨es,c,h1,h2⟩,h3⟩:=M4
  exact⟨⟨es,c,by rw[<- hw5,blk_push_ne h3];exact h1,h2⟩,by rw[<- hw5,AW.next_push];omega⟩
 rw[hw5]at g5 O5 hn5
 have hge:=gg3.1.next
 have hNL:NewLog w w4.next w3.next:=⟨by omega,hge⟩
 have L5:LogAt w5 pR pG pS cR cG cS s w4.next w3.next x0:=⟨O5,M5,by omega,x0_ok⟩
 generalize logC pR pG pS cR cG cS s w3.next x0=LC at *
 simp -dsimp -implicitDefEqProofs (maxSteps:=2000000) (disch:=first|assumption|omega|simp only[nx];omega|(repeat apply zfp);assumption|simp only[smA];done|simp[oneCell,znp]) only[go_sem,hl3,hw4,hbl,hw5]
 rw[hw4,hw5]
 have hg0:goC s L 0 x0=goC s (L.drop 0) 0 x0:=rfl
 refine loopR (fun k t ds w6=>∃ i:Nat,i≤L.length/\k=L.length - i/\ds=[]/\ev t (.tmp 1)=.slice pL L.length cL/\ev t (.tmp 4)=.pointer (some ⟨w4.next,0,none⟩)/\ev t (.tmp 24)=.slice pL L.length cL/\ev t (.tmp 25)=.int .i64 (L.length:Int)/\ev t (.tmp 26)=.int .i64 (i:Int)/\(∃ x,goC s L 0 x0=goC s (L.drop i) i x/\LogAt w6 pR pG pS cR cG cS s w4.next w3.next x/\LogIn s x)/\Grown w w6) (L.length) ?_ ?_
 . refine⟨0,by omega,by omega,rfl,?_,?_,?_,?_,?_,⟨x0,hg0,L5,x0_in hs⟩,g5⟩ <;> simp -dsimp -implicitDefEqProofs (maxSteps:=2000000) (disch:=first|assumption|omega|simp only[nx];omega|(repeat apply zfp);assumption|simp only[smA];done|simp[oneCell,znp]) only[go_sem] <;> rfl
 rintro k t ds w6 ⟨i,hii,rfl,rfl,e1,e4,e24,e25,e26,⟨x,hG,hLx,hIx⟩,g6⟩
 by_cases hlt:(i:Int) < (L.length:Int)
 case neg =>
  obtain rfl:i=L.length:=by omega
  rw[List.drop_length]at hG
  rw[hG]at hR
  simp -dsimp -implicitDefEqProofs (maxSteps:=2000000) (disch:=first|assumption|omega|simp only[nx];omega|(repeat apply zfp);assumption|simp only[smA];done|simp[oneCell,znp]) only[go_sem,e1,e4,e24,e25,e26,hlt]
  exact⟨g6,.inr ⟨by rw[hR];rfl,by rw[hR];rfl,trivial,trivial,w4.next,w3.next,hNL,rfl,by rw[hR];exact hLx,by rw[hR];exact hIx⟩⟩
 have hi:i < L.length:=by omega
 obtain⟨b4,o4,rfl,hb4,hrow⟩:=arr_row hL carIC_len carIC_one hi
 have hld6:=hrow w6 g6.1
 rw[List.drop_eq_getElem_cons hi]at hG
 obtain⟨hcb,hcd⟩:=hall L[i] (List.getElem_mem hi)
 obtain⟨hcc,hco,hck⟩:=carry_nat hs hcb hcd
 have hdo6:=hdo hs x L[i].toN hco hck hIx w4.next w3.next
 have hstp:=hIx.step hs hLx.ok L[i].toN hco
 simp only[goC]at hG
 have f6:=g6.2
 have O7:=Own.new f6 62 (carIC car0)
 have g7:=g6.push (.cells (carIC car0) 62 w6.next 0 0)
 have g67:=(Grown.refl f6).push (.cells (carIC car0) 62 w6.next 0 0)
 obtain⟨w7,hw7⟩:∃ w7,w6.push (.cells (carIC car0) 62 w6.next 0 0)=w7:=⟨_,rfl⟩
 rw[hw7]at O7 g7 g67
 obtain⟨w8,st8,O8,m8,hn8⟩:=store_new (n:=8) (l:=carIC L[i]) g7.2 O7 rfl rfl (by omega) rfl
 have g68:Grown w6 w8:=⟨g67.1.trans (m8.keep (fun j q=>by omega) g67.1.next),m8.fresh⟩
 have g8:=g6.trans g68
 have hld8:=loadAll O8 (n:=8) rfl (carIC_one _)
 rw[hcc]at hld6 st8 hld8
 have hdo8:=hdo6 w8 (hLx.grown g68) g8 hNL
 generalize L[i]=c at *
 generalize hse:stepE s x c.toN=SE at *
 generalize c.toN=cn at *
 have hcar:∀ n:CarN,(carC n).toArray = #[.int .i64 (n.day:Int),.int .i64 (n.kind:Int),.int .i64 (n.bag:Int),.int .i64 (n.to:Int),.int .i64 (n.ca:Int),.int .i64 (n.cb:Int),.int .i64 (n.sl:Int),.int .i64 (n.suits:Int)]:=fun _=>rfl
 rw[hcar]at hld6 st8 hld8
 unfold carIC car0 carV at *
 simp -dsimp -implicitDefEqProofs (maxSteps:=2000000) (disch:=first|assumption|omega|simp only[nx];omega|(repeat apply zfp);assumption|simp only[smA];done|simp[oneCell,znp]) only[go_sem,e1,e4,e24,e25,e26,hlt,indexV_eq,hld6,hw7,st8,hld8,Nat.zero_add]
 apply callV_of (e:=rfl)
 . exact hdo8
 rintro _ w9 ⟨rfl,m9,hL9⟩
 have g9:=hNL.grown g8 m9
 by_cases h0:SE=0
 . rw[if_pos h0]at hG
   have h00:(SE:Int)=0:=by omega
   simp -dsimp -implicitDefEqProofs (maxSteps:=2000000) (disch:=first|assumption|omega|simp only[nx];omega|(repeat apply zfp);assumption|simp only[smA];done|simp[oneCell,znp]) only[go_sem,e1,e4,e24,e25,e26,h00]
   refine⟨_,by omega,i+1,by omega,rfl,rfl,by(simp only[go_sem,e1];try rfl),by(simp only[go_sem,e4];try rfl),by(simp only[go_sem,e24];try rfl),by(simp only[go_sem,e25];try rfl),by(simp only[go_sem,e26];try rfl),⟨_,hG,hL9 h0,hstp.1⟩,g9⟩
 . rw[if_neg h0]at hG
   rw[hG]at hR
   have h00:¬ (SE:Int)=0:=by omega
   simp -dsimp -implicitDefEqProofs (maxSteps:=2000000) (disch:=first|assumption|omega|simp only[nx];omega|(repeat apply zfp);assumption|simp only[smA];done|simp[oneCell,znp]) only[go_sem,e1,e4,e24,e25,e26,h00]
   exact⟨g9,.inl ⟨by rw[hR];exact h0,by rw[hR]⟩⟩
end Go.Proofs

namespace Go.Proofs
open Go Go.RowKit Go.Sim
set_option maxRecDepth 100000
theorem Tryz.und44:Tryz.prog.underlying 44=some (.slice 62):=by kernel_rfl
theorem Tryz.cells62:Tryz.prog.cellsOf 62=8:=by kernel_rfl
theorem Tryz.und62:∃ fs,Tryz.prog.underlying 62=some (.struct fs)/\fs.size=8/\∀ (i:Nat) f,fs[i]? = some f->f.type=3:=by
 refine⟨_,(by kernel_rfl:Tryz.prog.underlying 62=some (.struct #[⟨ "Day",3,0,false, "", "",0⟩, ⟨ "Kind",3,1,false, "", "",8⟩, ⟨ "Bag",3,2,false, "", "",16⟩, ⟨ "To",3,3,false, "", "",24⟩, ⟨ "By",3,4,false, "", "",32⟩, ⟨ "With",3,5,false, "", "",40⟩, ⟨ "Seal",3,6,false, "", "",48⟩, ⟨ "Suits",3,7,false, "", "",56⟩])),rfl,?_⟩
 intro i f h
 match i,h with
 | 0,h|1,h|2,h|3,h|4,h|5,h|6,h|7,h=>cases h;rfl
theorem given_car {w:AW} {n:Nat} {cs:List Value} (h:Hd Tryz.prog w n 62 cs):∃ c:CarI,cs=carIC c:=by
 obtain⟨fs,hu,hsz,hty⟩:=Tryz.und62
 cases n with
 | zero=>exact h.elim
 | succ n =>
  simp only[Hd,hu]at h
  obtain⟨parts,hc,hl,hp⟩:=h
  rw[hsz]at hl
  have hf:∀ i,i < 8->∃ f,fs[i]? = some f/\f.type=3:=fun i hi=>⟨fs[i]'(by omega),Array.getElem?_eq_getElem _,hty i _ (Array.getElem?_eq_getElem (by omega))⟩
  match parts,hl with
  | [p0,p1,p2,p3,p4,p5,p6,p7],_ =>
   have get:∀ i p,i < 8->[p0,p1,p2,p3,p4,p5,p6,p7][i]? = some p->∃ x:Int,p=icells x:=fun i p hi e=>by
    obtain⟨f,h1,h2⟩:=hf i hi
    have:=hp i f p h1 e
    rw[h2]at this
    exact given_intV this
   obtain⟨a,rfl⟩:=get 0 p0 (by omega) rfl
   obtain⟨b,rfl⟩:=get 1 p1 (by omega) rfl
   obtain⟨c,rfl⟩:=get 2 p2 (by omega) rfl
   obtain⟨d,rfl⟩:=get 3 p3 (by omega) rfl
   obtain⟨e,rfl⟩:=get 4 p4 (by omega) rfl
   obtain⟨f,rfl⟩:=get 5 p5 (by omega) rfl
   obtain⟨g,rfl⟩:=get 6 p6 (by omega) rfl
   obtain⟨h',rfl⟩:=get 7 p7 (by omega) rfl
   exact⟨⟨a,b,c,d,e,f,g,h'⟩,by rw[hc];rfl⟩
theorem pre_of {w:AW} {p:Option Addr} {n c:Nat} (h:EndAt w (.slice p n c)) (hc:n≤c):Pre w p n c:=by
 match p,h with
 | none,h =>
  obtain⟨h1,h2⟩:=h.1 n c rfl
  exact .inl ⟨.inl rfl,h1,h2⟩
 | some ⟨b,o,sp⟩,h =>
  obtain⟨h1,h2⟩:=h.2 b o sp n c rfl
  rcases Nat.eq_zero_or_pos c with q|q
  . obtain⟨rfl,rfl,rfl⟩:=h2 q
    exact .inl ⟨.inr rfl,by omega,q⟩
  . obtain⟨rfl,hb,hk⟩:=h1 q
    exact .inr ⟨b,o,rfl,hc,hb,.inl hk⟩
theorem given_cars {w:AW} {n:Nat} {v:Value} (h:HdV Tryz.prog w n 44 v):∃ (pL:Option Addr) (cL:Nat) (L:List CarI),v=.slice pL L.length cL/\ArrOf w 8 carIC (.slice pL L.length cL) L/\Pre w pL L.length cL:=by
 simp only[HdV,Tryz.und44]at h
 cases n with
 | zero=>exact h.elim
 | succ n =>
  simp only[Hd,Tryz.und44,Tryz.cells62]at h
  obtain⟨v',rows,e,ha,hr,hg,hrest⟩:=h
  injection e with e
  subst e
  obtain⟨L,rfl⟩:=rows_ofV (enc:=carIC) fun r hq=>given_car (hr r hq)
  have hA:ArrOf w 8 carIC v L:=ha
  obtain⟨pL,cL,rfl,hc,_,hat⟩:=id hA.open
  refine⟨pL,cL,L,rfl,hA,?_⟩
  exact pre_of hrest.2 hc
def logOf (L:List CarI):LogN:=L.foldl (fun x c=>stepN x c.toN) x0
theorem goC_log {s:StrN}:∀ (L:List CarI) (i:Nat) (x:LogN),(goC s L i x).2.1=0->(goC s L i x).2.2=L.foldl (fun x c=>stepN x c.toN) x
 | [],i,x,_=>rfl
 | c :: L,i,x,h=>by
  unfold goC at h ⊢
  split at h
  . rename_i q
    rw[if_pos q]
    exact goC_log L (i+1) _ h
  . rename_i q
    exact absurd h q
theorem run_log {s:StrN} {L:List CarI} (h:(runI s L).2.1=0):strB s=true/\areB s L=true/\(runI s L).2.2=logOf L:=by
 unfold runI at h ⊢
 by_cases hs:strB s=true
 · rw [if_pos hs]at h ⊢
   by_cases ha:areB s L=true
   . rw[if_pos ha]at h ⊢
     exact⟨hs,ha,goC_log L 0 x0 h⟩
   . rw[if_neg ha]at h;exact absurd h (by show (43:Nat) ≠ 0;omega)
 . rw[if_neg hs]at h;exact absurd h (by show (40:Nat) ≠ 0;omega)
theorem logOf_ok:∀ (L:List CarI) (x:LogN),LogOk x->LogOk (L.foldl (fun x c=>stepN x c.toN) x)
 | [],x,h=>h
 | c :: L,x,h=>logOf_ok L _ (h.step c.toN)
def bagB (x:LogN) (c:CarN):BagN :=
 if c.kind=1 then ⟨c.to,c.sl,c.suits,c.ca,c.cb⟩
 else if c.kind=2 then ⟨c.to,(x.bag c.bag).sl,(x.bag c.bag).suits,c.ca,c.cb⟩
 else if c.kind=3 then ⟨(x.bag c.bag).room,(x.bag c.bag).sl,(x.bag c.bag).suits,c.ca,c.cb⟩
 else if c.kind=4 then ⟨(x.bag c.bag).room,c.sl,(x.bag c.bag).suits,c.ca,c.cb⟩
 else ⟨0,0,(x.bag c.bag).suits,c.ca,c.cb⟩
theorem done_bags (B:List BagN) (T S:List Nat) (c:CarN) (hi:c.bag < B.length) (y:BagN):(doneN ⟨B.set c.bag y,T,S⟩ c).bags=B.set c.bag ((y.put 3 c.ca).put 4 c.cb):=by
 unfold doneN LogN.put
 simp[List.set_set,List.getD,hi]
theorem step_bags (x:LogN) (hk:LogOk x) (c:CarN) (hc:c.bag < 32):(stepN x c).bags=x.bags.set c.bag (bagB x c):=by
 have hl:=hk.bags
 have hb:c.bag < x.bags.length:=by omega
 have hz:x.bags=x.bags.set c.bag (x.bag c.bag):=by
  rw[LogN.bag_get hk hc,List.set_getElem_self]
 unfold stepN stepK bagB
 split
 . show (doneN ⟨((x.bags.set c.bag ((inB c).at c.to)).set c.bag _),_,_⟩ c).bags=_
   rw[List.set_set,done_bags _ _ _ c hb]
   simp[hb,inB,BagN.at,BagN.put,LogN.placed]
 split
 . show (doneN ⟨(x.bags.set c.bag ((x.bag c.bag).at c.to)),_,_⟩ c).bags=_
   rw[done_bags _ _ _ c hb]
   rfl
 split
 . show (doneN ⟨x.bags,_,_⟩ c).bags=_
   rw[hz,done_bags _ _ _ c hb,List.set_set]
   rfl
 split
 . show (doneN ⟨(x.bags.set c.bag _),_,_⟩ c).bags=_
   rw[done_bags _ _ _ c hb]
   rfl
 . show (doneN ⟨((x.bags.set c.bag _).set c.bag _),_,_⟩ c).bags=_
   rw[List.set_set,done_bags _ _ _ c hb]
   simp[hb,BagN.put,LogN.put,LogN.bag,List.getD]
theorem step_seals (x:LogN) (c:CarN):(stepN x c).seals=if c.kind=1 \/ c.kind=4 then x.seals++[c.sl] else x.seals:=by
 unfold stepN stepK
 split
 . rename_i h;rw[if_pos (.inl h)];rfl
 split
 . rename_i h1 h2;rw[if_neg (by omega)];rfl
 split
 . rename_i h1 h2 h3;rw[if_neg (by omega)];rfl
 split
 . rename_i h1 h2 h3 h4;rw[if_pos (.inr h4)];rfl
 . rename_i h1 h2 h3 h4;rw[if_neg (by omega)];rfl
def manyB (B:List BagN) (room:Nat):Nat:=B.countP fun b=>decide (b.room=room)
theorem cnt_many {B:List BagN} (h:B.length=32) (room:Nat):cntTo B room 32=manyB B room:=by
 unfold cntTo manyB
 rw[List.take_of_length_le (by omega)]
theorem many_set {B:List BagN} {i:Nat} (hi:i < B.length) (y:BagN) (room:Nat):manyB (B.set i y) room+(if B[i].room=room then 1 else 0)=manyB B room+(if y.room=room then 1 else 0):=by
 unfold manyB
 have h1:B=B.take i++B[i] :: B.drop (i+1):=by rw[List.getElem_cons_drop,List.take_append_drop]
 have h2:B.set i y=B.take i++y :: B.drop (i+1):=by rw[List.set_eq_take_append_cons_drop,if_pos hi]
 conv=>rhs;rw[h1]
 rw[h2]
 simp only[List.countP_append,List.countP_cons,decide_eq_true_eq]
 omega
theorem orE_zero {a b:Nat}:orE a b=0↔a=0/\b=0:=by
 unfold orE
 split
 . rename_i h;exact⟨fun q=>⟨h,q⟩,fun q=>q.2⟩
 . rename_i h;exact⟨fun q=>absurd q h,fun q=>q.1⟩
theorem bag_at (x:LogN) (hk:LogOk x) (c:CarN) (hc:c.bag < 32) (j:Nat) (hj:j < 32):(stepN x c).bag j=if j=c.bag then bagB x c else x.bag j:=by
 have hl:=hk.bags
 rw[LogN.bag_get (hk.step c) hj]
 have:=step_bags x hk c hc
 simp only[this,List.getElem_set]
 by_cases q:c.bag=j
 . rw[if_pos q,if_pos q.symm]
 . rw[if_neg q,if_neg (fun z=>q z.symm),LogN.bag_get hk hj]
theorem need_zero {s:StrN} {x:LogN} {c:CarN} (h:needE s x c=0):(x.bag c.bag).room ≠ 0/\reachB s (2 ^ (x.bag c.bag).room) (pairN c)=true:=by
 unfold needE at h
 split at h
 . cases h
 split at h
 . rename_i h1 h2;exact⟨h1,h2⟩
 . cases h
theorem toRoom_at {s:StrN} {c:CarN} (hc:CarOk s c):toRoom s c=s.rooms[c.to]'hc.to:=by simp[toRoom,hc.to]
theorem logOf_snoc {L:List CarI} {i:Nat} (hi:i < L.length):logOf (L.take (i+1))=stepN (logOf (L.take i)) (L[i]).toN:=by
 unfold logOf
 rw[List.take_succ_eq_append_getElem hi,List.foldl_append];rfl
theorem upto_is (day:Int):∀ (L:List CarI) (n:Nat),n≤L.length->(∀ i (hi:i < L.length),i < n->L[i].day≤day)->(∀ (hn:n < L.length),day < L[n].day)->uptoN day L=n
 | [],n,hn,_,_=>by simp at hn;subst hn;rfl
 | c :: L,0,_,_,h=>by
  have:=h (by simp)
  unfold uptoN
  rw[if_neg (by have:day < c.day:=this;omega)]
 | c :: L,n+1,hn,h1,h2=>by
  have h0:c.day≤day:=h1 0 (by simp) (by omega)
  unfold uptoN
  rw[if_pos h0,upto_is day L n (by simpa using hn) (fun i hi hin=>h1 (i+1) (by simpa using hi) (by omega)) (fun hn'=>h2 (by simpa using hn'))]
attribute [go_sem] Tryz.ty107 Tryz.ty111
attribute [-go_sem] Tryz.ty107 Tryz.ty111
end Go.Proofs

namespace Go.Proofs
open Go Go.RowKit Go.Sim
end Go.Proofs

namespace Go.Proofs
open Go Go.RowKit Go.Sim
set_option maxRecDepth 100000
theorem ne_12:¬ (1:Int)=2:=by decide
theorem ne_13:¬ (1:Int)=3:=by decide
theorem ne_21:¬ (2:Int)=1:=by decide
theorem ne_23:¬ (2:Int)=3:=by decide
theorem ne_24:¬ (2:Int)=4:=by decide
theorem ne_31:¬ (3:Int)=1:=by decide
theorem ne_32:¬ (3:Int)=2:=by decide
theorem ne_34:¬ (3:Int)=4:=by decide
theorem ne_41:¬ (4:Int)=1:=by decide
theorem ne_42:¬ (4:Int)=2:=by decide
theorem ne_43:¬ (4:Int)=3:=by decide
theorem ne_51:¬ (5:Int)=1:=by decide
theorem ne_52:¬ (5:Int)=2:=by decide
theorem ne_53:¬ (5:Int)=3:=by decide
theorem ne_54:¬ (5:Int)=4:=by decide
attribute [go_sem] ne_12 ne_13 ne_21 ne_23 ne_24 ne_31 ne_32 ne_34 ne_41 ne_42 ne_43 ne_51 ne_52 ne_53 ne_54
theorem two_people {s:StrN} {c:CarI} (h:carryB s c=true):c.ca ≠ c.cb:=by
 unfold carryB at h
 simp only[Bool.and_eq_true,Bool.not_eq_true',decide_eq_false_iff_not]at h
 exact h.2.2.2.2.1
def LogN.trail (x:LogN) (i:Nat):Nat:=x.trails.getD i 0
def trailB (x:LogN) (c:CarN):Nat :=
 if c.kind=1 then 2 ^ c.to
 else if c.kind=2 then x.trail c.bag ||| 2 ^ c.to
 else if c.kind=3 \/ c.kind=4 then 2 ^ (x.bag c.bag).room
 else x.trail c.bag
theorem step_trail (x:LogN) (hk:LogOk x) (c:CarN) (hc:c.bag < 32):(stepN x c).trails=x.trails.set c.bag (trailB x c):=by
 have hl:=hk.bags
 have hb:c.bag < x.bags.length:=by omega
 have ht:c.bag < x.trails.length:=by rw[hk.trails];exact hc
 have hz:x.trails=x.trails.set c.bag (x.trail c.bag):=by
  have:x.trail c.bag=x.trails[c.bag]:=by simp[LogN.trail,List.getD,ht]
  rw[this,List.set_getElem_self]
 unfold stepN trailB
 show (stepK x c).trails=_
 unfold stepK
 split
 . show x.trails.set c.bag (2 ^ _)=_
   congr 2
   simp[LogN.bag,LogN.put,LogN.placed,hb,inB,BagN.at,BagN.put]
 split
 . show x.trails.set c.bag (x.trails.getD c.bag 0 ||| 2 ^ c.to)=_
   rfl
 split
 . rename_i h;rw[if_pos (.inl h)];rfl
 split
 . rename_i h
   rw[if_pos (.inr h)]
   show x.trails.set c.bag (2 ^ _)=_
   congr 2
   simp[LogN.bag,LogN.put,hb,BagN.put]
 . rename_i h1 h2
   rw[if_neg (by omega)]
   exact hz
theorem bagB_who (x:LogN) (c:CarN):(bagB x c).ca=c.ca/\(bagB x c).cb=c.cb:=by
 unfold bagB
 split
 . exact⟨rfl,rfl⟩
 split
 . exact⟨rfl,rfl⟩
 split
 . exact⟨rfl,rfl⟩
 split <;> exact⟨rfl,rfl⟩
theorem two_peopleN {s:StrN} {c:CarI} (h:carryB s c=true):c.toN.ca ≠ c.toN.cb:=by
 have h0:=two_people h
 unfold carryB at h
 simp only[Bool.and_eq_true,inR_iff]at h
 have h3:=h.2.2.1
 have h4:=h.2.2.2.1
 show c.ca.toNat ≠ c.cb.toNat
 omega
def back2 (bag:Nat) (L:List CarI):Nat->List Nat
 | 0=>[]
 | k+1=>match L[k]? with
  | some c=>if c.toN.bag=bag/\(c.toN.kind=1 \/ c.toN.kind=2) then [c.toN.to] else back2 bag L k
  | none=>[]
def back (bag:Nat) (L:List CarI):Nat->List Nat
 | 0=>[]
 | i+1=>match L[i]? with
  | some c=>if c.toN.bag=bag then (if c.toN.kind=1 then [c.toN.to] else if c.toN.kind=2 then c.toN.to :: back bag L i else back2 bag L i) else back bag L i
  | none=>[]
theorem need_of {s:StrN} {x:LogN} {c:CarN} (h0:stepE s x c=0) (h1:c.kind ≠ 1):(x.bag c.bag).room ≠ 0:=by
 have hn:needE s x c=0:=by
  unfold stepE at h0
  rw[if_neg h1]at h0
  split at h0
  . unfold moveE at h0;rw[orE_zero]at h0;exact h0.1
  split at h0
  . unfold checkE at h0;rw[orE_zero]at h0;exact h0.1
  split at h0
  . unfold openE at h0;rw[orE_zero]at h0;exact h0.1
  . exact h0
 exact (need_zero hn).1
theorem bit_or_pow (a k:Nat):(a ||| 2 ^ k).testBit k=true:=by
 rw[Nat.testBit_or,Bool.or_eq_true];exact .inr (bit_pow.2 rfl)
end Go.Proofs
