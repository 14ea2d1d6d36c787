/- This program: its code, contracts, numbers, part 4. -/
import Derived.Test.YtnbfkakjdifcpaaGreatPac
import Derived.Test.YtnbfkakjdifcpaaGreatPaa
import Derived.Test.YtnbfkakjdifcpaaGreatPab
import Derived.Test.YtnbfkakjdifcpaaGreatNc
import Derived.Test.YtnbfkakjdifcpaaGreatNa
import Derived.Test.YtnbfkakjdifcpaaGreatChecked
set_option linter.unusedVariables false
set_option linter.unusedSimpArgs false
namespace Go.Proofs
open Go Go.RowKit Go.Sim
set_option maxRecDepth 100000
def allTo {α:Type} (b:α->Bool) (L:List α) (i:Nat):Bool:=(L.take i).all b
theorem allTo_succ {α:Type} {b:α->Bool} {L:List α} {i:Nat} (h:i < L.length):allTo b L (i+1)=(allTo b L i && b L[i]):=by
 unfold allTo
 rw[List.take_add_one,List.getElem?_eq_getElem h,List.all_append];simp
theorem allTo_all {α:Type} (b:α->Bool) (L:List α):allTo b L L.length=L.all b:=by unfold allTo;rw[List.take_length]
theorem allTo_zero {α:Type} (b:α->Bool) (L:List α):allTo b L 0=true:=by unfold allTo;simp
theorem setB_8 (x:Int):setB 8 x=inR 0 x 255:=by unfold setB;rw[show fullI 8=255 from by decide]
theorem room_cells {w:AW} {L:List RoomN} {p:Option Addr} {c:Nat} (h:ArrOf w 3 rcells (.slice p L.length c) L) {i:Nat} (hi:i < L.length) :
    ∃ b o,p=some ⟨b,o,none⟩/\∀ w',Keep w.next w w'->loadV w' true 3 (.pointer (some ⟨b,o+i * 3,none⟩))=some (.agg #[.int .i64 L[i].hold,.int .i64 L[i].climate,.int .i64 L[i].keys]):=by
 obtain⟨p',c',ex,hc1,hc2,hat⟩:=h.open
 injection ex with ex1 ex2 ex3
 obtain⟨b4,o4,hp,_,hcell⟩:=hat i hi
 refine⟨b4,o4,by rw[ex1,hp],fun w' k=>?_⟩
 have a0:=hcell w' k 0 _ rfl
 have a1:=hcell w' k 1 _ rfl
 have a2:=hcell w' k 2 _ rfl
 rw[Nat.add_zero]at a0
 simp only[loadV,aCells,a0,a1,a2]
def chk1 (s:StrN):Bool:=(inR 1 s.rooms.length 6 && decide ((s.gates.length:Int)≤10)) && inR 2 s.staff.length 6
def chk2 (s:StrN):Bool:=chk1 s && s.rooms.all roomB
def chk3 (s:StrN):Bool:=chk2 s && s.gates.all (gateB s.rooms.length)
theorem chk_all (s:StrN):(chk3 s && s.staff.all (setB 8))=strB s:=by
 unfold chk3 chk2 chk1 strB roomsB gatesB staffB
 cases inR 1 s.rooms.length 6 <;> cases decide ((s.gates.length:Int)≤10) <;> cases inR 2 s.staff.length 6 <;> cases s.rooms.all roomB <;> simp
def gateA (n:Nat) (g:GateN):Bool:=inR 0 g.A ((n:Int) - 1) && (inR 0 g.B ((n:Int) - 1) && (!decide (g.A=g.B) && (inR 1 g.need 3 && inR 1 g.ways.length 3)))
theorem gateA_is (n:Nat) (g:GateN):gateB n g=(gateA n g && g.ways.all (setB 8)):=by
 unfold gateA gateB waysB
 simp only[Bool.and_assoc]
set_option maxHeartbeats 64000000 in
theorem CheckR_ok (s:StrN) (pR pG pS:Option Addr) (cR cG cS:Nat) (w:AW) (f:Fresh w) (hA:StrAt w pR pG pS cR cG cS s) (hb:(s.rooms.length:Int)≤140737488355328) :
    CallT Tryz.prog Tryz.T1 (.fn (.func 18) #[]) #[.agg (strC pR pG pS cR cG cS s).toArray] w (Ret (.int .i64 (strE s)) (Grown w)):=by
 have g1:=(Grown.refl f).push (.cells (strC pR pG pS cR cG cS s) 26 w.next 0 0)
 have O1:=Own.new f 26 (strC pR pG pS cR cG cS s)
 have c0:=O1.cell (o:=0) rfl rfl
 have c1:=O1.cell (o:=1) rfl rfl
 have c2:=O1.cell (o:=2) rfl rfl
 have hA1:=hA.grown g1
 unfold strC at *
 refine callT_code rfl Tryz.func18 rfl Tryz.s18_eq rfl ?_
 delta Tryz.s18 zo zg zon zv zk
 simp -dsimp -implicitDefEqProofs (maxSteps:=2000000) (disch:=first|assumption|omega|simp only[nx];omega|(repeat apply zfp);assumption|simp only[smA];done|simp[oneCell,znp]) only[go_sem,c0,Nat.zero_add]
 generalize w.push (.cells [.slice pR s.rooms.length cR,.slice pG s.gates.length cG,.slice pS s.staff.length cS] 26 w.next 0 0)=w1 at *
 apply callV_of (e:=rfl)
 . exact From_ok _ _ _ w1
 rintro _ _ ⟨rfl,rfl⟩
 apply joinC (F:=fun t=>ev t (.tmp 1)=.pointer (some ⟨w.next,0,none⟩)/\ev t (.tmp 3)=.bool (chk1 s)) (w:=w1)
 case mainC =>
  intro go
  have hc:chk1 s=((inR 1 s.rooms.length 6 && decide ((s.gates.length:Int)≤10)) && inR 2 s.staff.length 6):=rfl
  cases h1:inR 1 s.rooms.length 6 with
  | false =>
   have hF:chk1 s=false:=by rw[hc,h1];rfl
   simp -dsimp -implicitDefEqProofs (maxSteps:=2000000) (disch:=first|assumption|omega|simp only[nx];omega|(repeat apply zfp);assumption|simp only[smA];done|simp[oneCell,znp]) only[go_sem,h1,c1,c2,Nat.zero_add]
   exact joinC_use go ⟨by(simp only[go_sem];try rfl),by(simp -dsimp -implicitDefEqProofs (maxSteps:=2000000) (disch:=first|assumption|omega|simp only[nx];omega|(repeat apply zfp);assumption|simp only[smA];done|simp[oneCell,znp]) only[go_sem,hF];try rfl)⟩
  | true =>
  by_cases h2:(s.gates.length:Int)≤10
  case neg =>
   have hd:decide ((s.gates.length:Int)≤10)=false:=decide_eq_false h2
   have hF:chk1 s=false:=by rw[hc,h1,hd];rfl
   simp -dsimp -implicitDefEqProofs (maxSteps:=2000000) (disch:=first|assumption|omega|simp only[nx];omega|(repeat apply zfp);assumption|simp only[smA];done|simp[oneCell,znp]) only[go_sem,h1,c1,c2,hd,Nat.zero_add]
   exact joinC_use go ⟨by(simp only[go_sem];try rfl),by(simp -dsimp -implicitDefEqProofs (maxSteps:=2000000) (disch:=first|assumption|omega|simp only[nx];omega|(repeat apply zfp);assumption|simp only[smA];done|simp[oneCell,znp]) only[go_sem,hF];try rfl)⟩
  have hd:decide ((s.gates.length:Int)≤10)=true:=decide_eq_true h2
  simp -dsimp -implicitDefEqProofs (maxSteps:=2000000) (disch:=first|assumption|omega|simp only[nx];omega|(repeat apply zfp);assumption|simp only[smA];done|simp[oneCell,znp]) only[go_sem,h1,c1,c2,hd,Nat.zero_add]
  apply callV_of (e:=rfl)
  . exact From_ok _ _ _ w1
  rintro _ _ ⟨rfl,rfl⟩
  have hF:chk1 s=inR 2 s.staff.length 6:=by rw[hc,h1,hd];rfl
  simp -dsimp -implicitDefEqProofs (maxSteps:=2000000) (disch:=first|assumption|omega|simp only[nx];omega|(repeat apply zfp);assumption|simp only[smA];done|simp[oneCell,znp]) only[go_sem]
  exact joinC_use go ⟨by(simp only[go_sem];try rfl),by(simp -dsimp -implicitDefEqProofs (maxSteps:=2000000) (disch:=first|assumption|omega|simp only[nx];omega|(repeat apply zfp);assumption|simp only[smA];done|simp[oneCell,znp]) only[go_sem,hF];try rfl)⟩
 case restC =>
 rintro t ⟨e1,e3⟩
 delta Tryz.s18_c4 zo zg zon zv zk
 have hz:=allTo_zero roomB s.rooms
 have hz2:=allTo_zero (gateB s.rooms.length) s.gates
 have hz3:=allTo_zero (setB 8) s.staff
 simp -dsimp -implicitDefEqProofs (maxSteps:=2000000) (disch:=first|assumption|omega|simp only[nx];omega|(repeat apply zfp);assumption|simp only[smA];done|simp[oneCell,znp]) only[go_sem,e1,e3]
 refine loopR (fun k t ds w2=>∃ i:Nat,i≤s.rooms.length/\k=s.rooms.length - i/\ds=[]/\ev t (.tmp 1)=.pointer (some ⟨w.next,0,none⟩)/\ev t (.tmp 3)=.bool (chk1 s && allTo roomB s.rooms i)/\ev t (.tmp 4)=.int .i64 (i:Int)/\Keep w1.next w1 w2/\Fresh w2) (s.rooms.length) ?_ ?_
 . refine⟨0,by omega,by omega,rfl,?_,?_,?_,.refl _ _,g1.2⟩ <;> simp -dsimp -implicitDefEqProofs (maxSteps:=2000000) (disch:=first|assumption|omega|simp only[nx];omega|(repeat apply zfp);assumption|simp only[smA];done|simp[oneCell,znp]) only[go_sem,e1,e3,hz,Bool.and_true] <;> rfl
 rintro k t ds w2 ⟨i,hii,rfl,rfl,e1,e3,e4,k2,f2⟩
 have gW:Grown w1 w2:=⟨k2,f2⟩
 have O2:=O1.keep k2
 have c0:=O2.cell (o:=0) rfl rfl
 have c1:=O2.cell (o:=1) rfl rfl
 have c2:=O2.cell (o:=2) rfl rfl
 by_cases hlt:(i:Int) < (s.rooms.length:Int)
 case pos =>
  have hlt':i < s.rooms.length:=by omega
  have hs:=allTo_succ (b:=roomB) hlt'
  have hrb:roomB s.rooms[i]=(inR 0 s.rooms[i].hold 16 && (inR 0 s.rooms[i].climate 3 && inR 0 s.rooms[i].keys 255)):=by rw[<- setB_8];rfl
  obtain⟨b4,o4,rfl,hld⟩:=room_cells hA1.rooms hlt'
  have hlo:=hld w2 k2
  generalize s.rooms[i]=R at *
  have g3:=(Grown.refl f2).push (.cells [.int .i64 0,.int .i64 0,.int .i64 0] 73 w2.next 0 0)
  have O3:=Own.new f2 73 [.int .i64 0,.int .i64 0,.int .i64 0]
  have st:=storeV_own (o:=0) (l:=[.int .i64 R.hold,.int .i64 R.climate,.int .i64 R.keys]) (size:=3) O3 rfl (by omega) (by simp) rfl
  have hcut:setsL [.int .i64 0,.int .i64 0,.int .i64 0] 0 [.int .i64 R.hold,.int .i64 R.climate,.int .i64 R.keys]=[.int .i64 R.hold,.int .i64 R.climate,.int .i64 R.keys]:=rfl
  rw[hcut]at st
  have m4:=MutS.put (S:=fun j=>j=w2.next) g3.2 rfl O3.lt (.cells [.int .i64 R.hold,.int .i64 R.climate,.int .i64 R.keys] 73 w2.next 0 0)
  have O4:=O3.put [.int .i64 R.hold,.int .i64 R.climate,.int .i64 R.keys]
  have g4:Grown w2 _:=⟨g3.1.trans (m4.keep (B:=w2.next) (fun j q=>by omega) g3.1.next),m4.fresh⟩
  have d0:=O4.cell (o:=0) rfl rfl
  have d1:=O4.cell (o:=1) rfl rfl
  have d2:=O4.cell (o:=2) rfl rfl
  have hfl:∀ b,b=(chk1 s && allTo roomB s.rooms i)->(chk1 s && allTo roomB s.rooms (i+1))=(b && roomB R):=fun b h=>by rw[hs,h,Bool.and_assoc]
  cases hF:(chk1 s && allTo roomB s.rooms i) with
  | false =>
   have hN:=hfl false hF.symm
   rw[Bool.false_and]at hN
   simp -dsimp -implicitDefEqProofs (maxSteps:=2000000) (disch:=first|assumption|omega|simp only[nx];omega|(repeat apply zfp);assumption|simp only[smA];done|simp[oneCell,znp]) only[go_sem,e1,e3,e4,hF,hlt,c0,indexV_eq,hlo,st,Nat.zero_add]
   refine⟨_,by omega,i+1,by omega,rfl,rfl,by(simp only[go_sem,e1,hN];try rfl),by(simp only[go_sem,e3,hN];try rfl),by(simp only[go_sem,e4,hN];try rfl),k2.trans (g4.1.mono k2.next),g4.2⟩
  | true =>
  have hN:=hfl true hF.symm
  rw[Bool.true_and,hrb]at hN
  simp -dsimp -implicitDefEqProofs (maxSteps:=2000000) (disch:=first|assumption|omega|simp only[nx];omega|(repeat apply zfp);assumption|simp only[smA];done|simp[oneCell,znp]) only[go_sem,e1,e3,e4,hF,hlt,c0,indexV_eq,hlo,st,d0,d1,d2,Nat.zero_add]
  generalize (w2.push (.cells [.int .i64 0,.int .i64 0,.int .i64 0] 73 w2.next 0 0)).put w2.next (.cells [.int .i64 R.hold,.int .i64 R.climate,.int .i64 R.keys] 73 w2.next 0 0)=w4 at *
  apply callV_of (e:=rfl)
  . exact From_ok _ _ _ w4
  rintro _ _ ⟨rfl,rfl⟩
  cases h1:inR 0 R.hold 16 with
  | false =>
   rw[h1,Bool.false_and]at hN
   simp -dsimp -implicitDefEqProofs (maxSteps:=2000000) (disch:=first|assumption|omega|simp only[nx];omega|(repeat apply zfp);assumption|simp only[smA];done|simp[oneCell,znp]) only[go_sem,e1,e3,e4,h1]
   refine⟨_,by omega,i+1,by omega,rfl,rfl,by(simp only[go_sem,e1,hN];try rfl),by(simp only[go_sem,e3,hN];try rfl),by(simp only[go_sem,e4,hN];try rfl),k2.trans (g4.1.mono k2.next),g4.2⟩
  | true =>
  simp -dsimp -implicitDefEqProofs (maxSteps:=2000000) (disch:=first|assumption|omega|simp only[nx];omega|(repeat apply zfp);assumption|simp only[smA];done|simp[oneCell,znp]) only[go_sem,e1,e3,e4,h1,d0,d1,d2,Nat.zero_add]
  apply callV_of (e:=rfl)
  . exact From_ok _ _ _ w4
  rintro _ _ ⟨rfl,rfl⟩
  cases h2:inR 0 R.climate 3 with
  | false =>
   rw[h1,h2,Bool.true_and,Bool.false_and]at hN
   simp -dsimp -implicitDefEqProofs (maxSteps:=2000000) (disch:=first|assumption|omega|simp only[nx];omega|(repeat apply zfp);assumption|simp only[smA];done|simp[oneCell,znp]) only[go_sem,e1,e3,e4,h2]
   refine⟨_,by omega,i+1,by omega,rfl,rfl,by(simp only[go_sem,e1,hN];try rfl),by(simp only[go_sem,e3,hN];try rfl),by(simp only[go_sem,e4,hN];try rfl),k2.trans (g4.1.mono k2.next),g4.2⟩
  | true =>
  rw[h1,h2,Bool.true_and,Bool.true_and]at hN
  simp -dsimp -implicitDefEqProofs (maxSteps:=2000000) (disch:=first|assumption|omega|simp only[nx];omega|(repeat apply zfp);assumption|simp only[smA];done|simp[oneCell,znp]) only[go_sem,e1,e3,e4,h2,d0,d1,d2,Nat.zero_add]
  apply callV_of (e:=rfl)
  . exact From_ok _ _ _ w4
  rintro _ _ ⟨rfl,rfl⟩
  simp -dsimp -implicitDefEqProofs (maxSteps:=2000000) (disch:=first|assumption|omega|simp only[nx];omega|(repeat apply zfp);assumption|simp only[smA];done|simp[oneCell,znp]) only[go_sem,e1,e3,e4]
  refine⟨_,by omega,i+1,by omega,rfl,rfl,by(simp only[go_sem,e1,hN];try rfl),by(simp only[go_sem,e3,hN];try rfl),by(simp only[go_sem,e4,hN];try rfl),k2.trans (g4.1.mono k2.next),g4.2⟩
 obtain rfl:i=s.rooms.length:=by omega
 have hF2:(chk1 s && allTo roomB s.rooms s.rooms.length)=chk2 s:=by rw[allTo_all];rfl
 rw[hF2]at e3
 simp -dsimp -implicitDefEqProofs (maxSteps:=2000000) (disch:=first|assumption|omega|simp only[nx];omega|(repeat apply zfp);assumption|simp only[smA];done|simp[oneCell,znp]) only[go_sem,e1,e3,e4,hlt,c0,Nat.zero_add]
 refine loopR (fun k t ds w3=>∃ j:Nat,j≤s.gates.length/\k=s.gates.length - j/\ds=[]/\ev t (.tmp 1)=.pointer (some ⟨w.next,0,none⟩)/\ev t (.tmp 3)=.bool (chk2 s && allTo (gateB s.rooms.length) s.gates j)/\ev t (.tmp 6)=.int .i64 (j:Int)/\Keep w1.next w1 w3/\Fresh w3) (s.gates.length) ?_ ?_
 . refine⟨0,by omega,by omega,rfl,?_,?_,?_,k2,f2⟩ <;> simp -dsimp -implicitDefEqProofs (maxSteps:=2000000) (disch:=first|assumption|omega|simp only[nx];omega|(repeat apply zfp);assumption|simp only[smA];done|simp[oneCell,znp]) only[go_sem,e1,e3,hz2,Bool.and_true] <;> rfl
 rintro k t ds w3 ⟨j,hij,rfl,rfl,e1,e3,e6,k3,f3⟩
 have gW3:Grown w1 w3:=⟨k3,f3⟩
 have O3:=O1.keep k3
 have c0:=O3.cell (o:=0) rfl rfl
 have c1:=O3.cell (o:=1) rfl rfl
 have c2:=O3.cell (o:=2) rfl rfl
 by_cases hlj:(j:Int) < (s.gates.length:Int)
 case pos =>
  have hlj':j < s.gates.length:=by omega
  have hs:=allTo_succ (b:=gateB s.rooms.length) hlj'
  obtain⟨b4,o4,x,rfl,hgN,hx,hld⟩:=gate_cells hA1.gates rfl hlj'
  have hlo:=(hld w3 k3).1
  have hgA:=gateA_is s.rooms.length s.gates[j]
  have hgA2:gateA s.rooms.length s.gates[j]=(inR 0 s.gates[j].A ((s.rooms.length:Int) - 1) && (inR 0 s.gates[j].B ((s.rooms.length:Int) - 1) && (!decide (s.gates[j].A=s.gates[j].B) && (inR 1 s.gates[j].need 3 && inR 1 s.gates[j].ways.length 3)))):=rfl
  generalize s.gates[j]=G at *
  obtain⟨px,cx,rfl,_⟩:=id hx.open
  have g4:=(Grown.refl f3).push (.cells [.int .i64 0,.int .i64 0,.int .i64 0,.slice none 0 0] 71 w3.next 0 0)
  have O4:=Own.new f3 71 [.int .i64 0,.int .i64 0,.int .i64 0,.slice none 0 0]
  have st:=storeV_own (o:=0) (l:=[.int .i64 G.A,.int .i64 G.B,.int .i64 G.need,.slice px G.ways.length cx]) (size:=4) O4 rfl (by omega) (by simp) rfl
  have hcut:setsL [.int .i64 0,.int .i64 0,.int .i64 0,.slice none 0 0] 0 [.int .i64 G.A,.int .i64 G.B,.int .i64 G.need,.slice px G.ways.length cx]=[.int .i64 G.A,.int .i64 G.B,.int .i64 G.need,.slice px G.ways.length cx]:=rfl
  rw[hcut]at st
  have m5:=MutS.put (S:=fun j=>j=w3.next) g4.2 rfl O4.lt (.cells [.int .i64 G.A,.int .i64 G.B,.int .i64 G.need,.slice px G.ways.length cx] 71 w3.next 0 0)
  have O5:=O4.put [.int .i64 G.A,.int .i64 G.B,.int .i64 G.need,.slice px G.ways.length cx]
  have O15:=m5.own (O3.push (.cells [.int .i64 0,.int .i64 0,.int .i64 0,.slice none 0 0] 71 w3.next 0 0)) (by have:=O1.lt;have:=k3.next;omega)
  have g5:Grown w3 _:=⟨g4.1.trans (m5.keep (B:=w3.next) (fun j q=>by omega) g4.1.next),m5.fresh⟩
  have d0:=O5.cell (o:=0) rfl rfl
  have d1:=O5.cell (o:=1) rfl rfl
  have d2:=O5.cell (o:=2) rfl rfl
  have d3:=O5.cell (o:=3) (v:=.slice px G.ways.length cx) rfl rfl
  have c05:=O15.cell (o:=0) (v:=.slice pR s.rooms.length cR) rfl rfl
  have hxw:=hx.grown (gW3.trans g5)
  have hzw:=allTo_zero (setB 8) G.ways
  have hwN:IntKind.i64.wrap ((s.rooms.length:Int) - 1)=(s.rooms.length:Int) - 1:=wrap64 (by omega) (by omega)
  have hfl:∀ b,b=(chk2 s && allTo (gateB s.rooms.length) s.gates j)->(chk2 s && allTo (gateB s.rooms.length) s.gates (j+1))=((b && gateA s.rooms.length G) && G.ways.all (setB 8)):=fun b h=>by rw[hs,h,hgA];simp only[Bool.and_assoc]
  obtain⟨F,hFd⟩:∃ F,F=((chk2 s && allTo (gateB s.rooms.length) s.gates j) && gateA s.rooms.length G):=⟨_,rfl⟩
  have hnxt:(chk2 s && allTo (gateB s.rooms.length) s.gates (j+1))=(F && G.ways.all (setB 8)):=by rw[hFd];exact hfl _ rfl
  generalize (w3.push (.cells [.int .i64 0,.int .i64 0,.int .i64 0,.slice none 0 0] 71 w3.next 0 0)).put w3.next (.cells [.int .i64 G.A,.int .i64 G.B,.int .i64 G.need,.slice px G.ways.length cx] 71 w3.next 0 0)=w5 at *
  apply joinC (F:=fun t=>ev t (.tmp 1)=.pointer (some ⟨w.next,0,none⟩)/\ev t (.tmp 3)=.bool F/\ev t (.tmp 6)=.int .i64 (j:Int)/\ev t (.tmp 7)=.pointer (some ⟨w3.next,0,none⟩)) (w:=w5)
  case mainC =>
   intro go
   simp -dsimp -implicitDefEqProofs (maxSteps:=2000000) (disch:=first|assumption|omega|simp only[nx];omega|(repeat apply zfp);assumption|simp only[smA];done|simp[oneCell,znp]) only[go_sem,e1,e3,e6,hlj,c1,indexV_eq,hlo,st,Nat.zero_add]
   cases hF:(chk2 s && allTo (gateB s.rooms.length) s.gates j) with
   | false =>
    have hN:F=false:=by rw[hFd,hF];rfl
    simp -dsimp -implicitDefEqProofs (maxSteps:=2000000) (disch:=first|assumption|omega|simp only[nx];omega|(repeat apply zfp);assumption|simp only[smA];done|simp[oneCell,znp]) only[go_sem,e1,e3,e6,hF]
    exact joinC_use go ⟨by(simp only[go_sem,e1];try rfl),by(simp -dsimp -implicitDefEqProofs (maxSteps:=2000000) (disch:=first|assumption|omega|simp only[nx];omega|(repeat apply zfp);assumption|simp only[smA];done|simp[oneCell,znp]) only[go_sem,hN];try rfl),by(simp only[go_sem,e6];try rfl),by(simp only[go_sem];try rfl)⟩
   | true =>
   rw[hF,Bool.true_and,hgA2]at hFd
   simp -dsimp -implicitDefEqProofs (maxSteps:=2000000) (disch:=first|assumption|omega|simp only[nx];omega|(repeat apply zfp);assumption|simp only[smA];done|simp[oneCell,znp]) only[go_sem,e1,e3,e6,hF,d0,c05,hwN,Nat.zero_add]
   apply callV_of (e:=rfl)
   . exact From_ok _ _ _ w5
   rintro _ _ ⟨rfl,rfl⟩
   cases h1:inR 0 G.A ((s.rooms.length:Int) - 1) with
   | false =>
    rw[h1,Bool.false_and]at hFd
    simp -dsimp -implicitDefEqProofs (maxSteps:=2000000) (disch:=first|assumption|omega|simp only[nx];omega|(repeat apply zfp);assumption|simp only[smA];done|simp[oneCell,znp]) only[go_sem,e1,e3,e6,h1]
    exact joinC_use go ⟨by(simp only[go_sem,e1];try rfl),by(simp -dsimp -implicitDefEqProofs (maxSteps:=2000000) (disch:=first|assumption|omega|simp only[nx];omega|(repeat apply zfp);assumption|simp only[smA];done|simp[oneCell,znp]) only[go_sem,hFd];try rfl),by(simp only[go_sem,e6];try rfl),by(simp only[go_sem];try rfl)⟩
   | true =>
   rw[h1,Bool.true_and]at hFd
   simp -dsimp -implicitDefEqProofs (maxSteps:=2000000) (disch:=first|assumption|omega|simp only[nx];omega|(repeat apply zfp);assumption|simp only[smA];done|simp[oneCell,znp]) only[go_sem,e1,e3,e6,h1,d1,c05,hwN,Nat.zero_add]
   apply callV_of (e:=rfl)
   . exact From_ok _ _ _ w5
   rintro _ _ ⟨rfl,rfl⟩
   cases h2:inR 0 G.B ((s.rooms.length:Int) - 1) with
   | false =>
    rw[h2,Bool.false_and]at hFd
    simp -dsimp -implicitDefEqProofs (maxSteps:=2000000) (disch:=first|assumption|omega|simp only[nx];omega|(repeat apply zfp);assumption|simp only[smA];done|simp[oneCell,znp]) only[go_sem,e1,e3,e6,h2]
    exact joinC_use go ⟨by(simp only[go_sem,e1];try rfl),by(simp -dsimp -implicitDefEqProofs (maxSteps:=2000000) (disch:=first|assumption|omega|simp only[nx];omega|(repeat apply zfp);assumption|simp only[smA];done|simp[oneCell,znp]) only[go_sem,hFd];try rfl),by(simp only[go_sem,e6];try rfl),by(simp only[go_sem];try rfl)⟩
   | true =>
   rw[h2,Bool.true_and]at hFd
   by_cases h3:G.A=G.B
   case pos =>
    have hd:decide (G.A=G.B)=true:=decide_eq_true h3
    rw[hd,Bool.not_true,Bool.false_and]at hFd
    simp -dsimp -implicitDefEqProofs (maxSteps:=2000000) (disch:=first|assumption|omega|simp only[nx];omega|(repeat apply zfp);assumption|simp only[smA];done|simp[oneCell,znp]) only[go_sem,e1,e3,e6,h2,d0,d1,hd,Nat.zero_add]
    exact joinC_use go ⟨by(simp only[go_sem,e1];try rfl),by(simp -dsimp -implicitDefEqProofs (maxSteps:=2000000) (disch:=first|assumption|omega|simp only[nx];omega|(repeat apply zfp);assumption|simp only[smA];done|simp[oneCell,znp]) only[go_sem,hFd];try rfl),by(simp only[go_sem,e6];try rfl),by(simp only[go_sem];try rfl)⟩
   have hd:decide (G.A=G.B)=false:=decide_eq_false h3
   rw[hd,Bool.not_false,Bool.true_and]at hFd
   simp -dsimp -implicitDefEqProofs (maxSteps:=2000000) (disch:=first|assumption|omega|simp only[nx];omega|(repeat apply zfp);assumption|simp only[smA];done|simp[oneCell,znp]) only[go_sem,e1,e3,e6,h2,d0,d1,d2,hd,Nat.zero_add]
   apply callV_of (e:=rfl)
   . exact From_ok _ _ _ w5
   rintro _ _ ⟨rfl,rfl⟩
   cases h4:inR 1 G.need 3 with
   | false =>
    rw[h4,Bool.false_and]at hFd
    simp -dsimp -implicitDefEqProofs (maxSteps:=2000000) (disch:=first|assumption|omega|simp only[nx];omega|(repeat apply zfp);assumption|simp only[smA];done|simp[oneCell,znp]) only[go_sem,e1,e3,e6,h4]
    exact joinC_use go ⟨by(simp only[go_sem,e1];try rfl),by(simp -dsimp -implicitDefEqProofs (maxSteps:=2000000) (disch:=first|assumption|omega|simp only[nx];omega|(repeat apply zfp);assumption|simp only[smA];done|simp[oneCell,znp]) only[go_sem,hFd];try rfl),by(simp only[go_sem,e6];try rfl),by(simp only[go_sem];try rfl)⟩
   | true =>
   rw[h4,Bool.true_and]at hFd
   simp -dsimp -implicitDefEqProofs (maxSteps:=2000000) (disch:=first|assumption|omega|simp only[nx];omega|(repeat apply zfp);assumption|simp only[smA];done|simp[oneCell,znp]) only[go_sem,e1,e3,e6,h4,d3,Nat.zero_add]
   apply callV_of (e:=rfl)
   . exact From_ok _ _ _ w5
   rintro _ _ ⟨rfl,rfl⟩
   simp -dsimp -implicitDefEqProofs (maxSteps:=2000000) (disch:=first|assumption|omega|simp only[nx];omega|(repeat apply zfp);assumption|simp only[smA];done|simp[oneCell,znp]) only[go_sem,e1,e3,e6]
   exact joinC_use go ⟨by(simp only[go_sem,e1];try rfl),by(simp -dsimp -implicitDefEqProofs (maxSteps:=2000000) (disch:=first|assumption|omega|simp only[nx];omega|(repeat apply zfp);assumption|simp only[smA];done|simp[oneCell,znp]) only[go_sem,hFd];try rfl),by(simp only[go_sem,e6];try rfl),by(simp only[go_sem];try rfl)⟩
  case restC =>
   clear e1 e3 e4 e6
   rintro t ⟨e1,e3,e6,e7⟩
   delta Tryz.s18_c8 zo zg zv zk
   simp -dsimp -implicitDefEqProofs (maxSteps:=2000000) (disch:=first|assumption|omega|simp only[nx];omega|(repeat apply zfp);assumption|simp only[smA];done|simp[oneCell,znp]) only[go_sem]
   refine loopR (fun k t ds w6=>∃ m:Nat,m≤G.ways.length/\k=G.ways.length - m/\ds=[]/\ev t (.tmp 1)=.pointer (some ⟨w.next,0,none⟩)/\ev t (.tmp 3)=.bool (F && allTo (setB 8) G.ways m)/\ev t (.tmp 6)=.int .i64 (j:Int)/\ev t (.tmp 7)=.pointer (some ⟨w3.next,0,none⟩)/\ev t (.tmp 8)=.int .i64 (m:Int)/\w5=w6) (G.ways.length) ?_ ?_
   . refine⟨0,by omega,by omega,rfl,?_,?_,?_,?_,?_,rfl⟩ <;> simp -dsimp -implicitDefEqProofs (maxSteps:=2000000) (disch:=first|assumption|omega|simp only[nx];omega|(repeat apply zfp);assumption|simp only[smA];done|simp[oneCell,znp]) only[go_sem,e1,e3,e6,e7,hzw,Bool.and_true] <;> rfl
   rintro k t ds w6 ⟨m,him,rfl,rfl,e1,e3,e6,e7,e8,hw⟩
   subst hw
   by_cases hlm:(m:Int) < (G.ways.length:Int)
   case neg =>
    obtain rfl:m=G.ways.length:=by omega
    rw[allTo_all]at e3
    simp -dsimp -implicitDefEqProofs (maxSteps:=2000000) (disch:=first|assumption|omega|simp only[nx];omega|(repeat apply zfp);assumption|simp only[smA];done|simp[oneCell,znp]) only[go_sem,e1,e3,e6,e7,e8,hlm,d3,Nat.zero_add]
    refine⟨_,by omega,j+1,by omega,rfl,rfl,by(simp only[go_sem,e1,hnxt];try rfl),by(simp only[go_sem,e3,hnxt];try rfl),by(simp only[go_sem,e6,hnxt];try rfl),k3.trans (g5.1.mono k3.next),g5.2⟩
   have hlm':m < G.ways.length:=by omega
   have hsm:=allTo_succ (b:=setB 8) hlm'
   obtain⟨_,_,ex,_,_,hat⟩:=hxw.open
   injection ex with ex1 ex2 ex3
   subst ex1 ex3
   obtain⟨b6,o6,rfl,_,hcell⟩:=hat m hlm'
   have a0:=hcell w5 (.refl _ _) 0 _ rfl
   rw[Nat.add_zero]at a0
   rw[setB_8]at hsm
   have hfm:∀ b,b=(F && allTo (setB 8) G.ways m)->(F && allTo (setB 8) G.ways (m+1))=(b && inR 0 G.ways[m] 255):=fun b h=>by rw[hsm,h,Bool.and_assoc]
   cases hF:(F && allTo (setB 8) G.ways m) with
   | false =>
    have hN:=hfm false hF.symm
    rw[Bool.false_and]at hN
    simp -dsimp -implicitDefEqProofs (maxSteps:=2000000) (disch:=first|assumption|omega|simp only[nx];omega|(repeat apply zfp);assumption|simp only[smA];done|simp[oneCell,znp]) only[go_sem,e1,e3,e6,e7,e8,hF,hlm,d3,Nat.zero_add]
    refine⟨_,by omega,m+1,by omega,rfl,rfl,by(simp only[go_sem,e1,hN];try rfl),by(simp only[go_sem,e3,hN];try rfl),by(simp only[go_sem,e6,hN];try rfl),by(simp only[go_sem,e7,hN];try rfl),by(simp only[go_sem,e8,hN];try rfl),rfl⟩
   | true =>
    have hN:=hfm true hF.symm
    rw[Bool.true_and]at hN
    simp -dsimp -implicitDefEqProofs (maxSteps:=2000000) (disch:=first|assumption|omega|simp only[nx];omega|(repeat apply zfp);assumption|simp only[smA];done|simp[oneCell,znp]) only[go_sem,e1,e3,e6,e7,e8,hF,hlm,d3,indexV_eq,a0,Nat.zero_add]
    apply callV_of (e:=rfl)
    . exact From_ok _ _ _ w5
    rintro _ _ ⟨rfl,rfl⟩
    simp -dsimp -implicitDefEqProofs (maxSteps:=2000000) (disch:=first|assumption|omega|simp only[nx];omega|(repeat apply zfp);assumption|simp only[smA];done|simp[oneCell,znp]) only[go_sem,e1,e3,e6,e7,e8]
    refine⟨_,by omega,m+1,by omega,rfl,rfl,by(simp only[go_sem,e1,hN];try rfl),by(simp only[go_sem,e3,hN];try rfl),by(simp only[go_sem,e6,hN];try rfl),by(simp only[go_sem,e7,hN];try rfl),by(simp only[go_sem,e8,hN];try rfl),rfl⟩
 obtain rfl:j=s.gates.length:=by omega
 have hF3:(chk2 s && allTo (gateB s.rooms.length) s.gates s.gates.length)=chk3 s:=by rw[allTo_all];rfl
 rw[hF3]at e3
 simp -dsimp -implicitDefEqProofs (maxSteps:=2000000) (disch:=first|assumption|omega|simp only[nx];omega|(repeat apply zfp);assumption|simp only[smA];done|simp[oneCell,znp]) only[go_sem,e1,e3,e6,hlj,c1,Nat.zero_add]
 refine loopR (fun k t ds w4=>∃ n:Nat,n≤s.staff.length/\k=s.staff.length - n/\ds=[]/\ev t (.tmp 1)=.pointer (some ⟨w.next,0,none⟩)/\ev t (.tmp 3)=.bool (chk3 s && allTo (setB 8) s.staff n)/\ev t (.tmp 9)=.int .i64 (n:Int)/\w3=w4) (s.staff.length) ?_ ?_
 . refine⟨0,by omega,by omega,rfl,?_,?_,?_,rfl⟩ <;> simp -dsimp -implicitDefEqProofs (maxSteps:=2000000) (disch:=first|assumption|omega|simp only[nx];omega|(repeat apply zfp);assumption|simp only[smA];done|simp[oneCell,znp]) only[go_sem,e1,e3,hz3,Bool.and_true] <;> rfl
 rintro k t ds w4 ⟨n,hin,rfl,rfl,e1,e3,e9,hw⟩
 subst hw
 by_cases hln:(n:Int) < (s.staff.length:Int)
 case neg =>
  obtain rfl:n=s.staff.length:=by omega
  rw[allTo_all,chk_all]at e3
  have fin:∀ b,strB s=b->strE s=if b then 0 else 40:=fun b h=>by unfold strE;rw[h]
  cases hB:strB s with
  | false =>
   rw[fin false hB]
   simp -dsimp -implicitDefEqProofs (maxSteps:=2000000) (disch:=first|assumption|omega|simp only[nx];omega|(repeat apply zfp);assumption|simp only[smA];done|simp[oneCell,znp]) only[go_sem,e1,e3,e9,hln,c2,hB,Nat.zero_add]
   exact⟨rfl,g1.trans gW3⟩
  | true =>
   rw[fin true hB]
   simp -dsimp -implicitDefEqProofs (maxSteps:=2000000) (disch:=first|assumption|omega|simp only[nx];omega|(repeat apply zfp);assumption|simp only[smA];done|simp[oneCell,znp]) only[go_sem,e1,e3,e9,hln,c2,hB,Nat.zero_add]
   exact⟨rfl,g1.trans gW3⟩
 have hln':n < s.staff.length:=by omega
 have hsm:=allTo_succ (b:=setB 8) hln'
 obtain⟨_,_,ex,_,_,hat⟩:=(hA1.staff.kept k3).open
 injection ex with ex1 ex2 ex3
 subst ex1 ex3
 obtain⟨b6,o6,rfl,_,hcell⟩:=hat n hln'
 have a0:=hcell w3 (.refl _ _) 0 _ rfl
 rw[Nat.add_zero]at a0
 rw[setB_8]at hsm
 have hfm:∀ b,b=(chk3 s && allTo (setB 8) s.staff n)->(chk3 s && allTo (setB 8) s.staff (n+1))=(b && inR 0 s.staff[n] 255):=fun b h=>by rw[hsm,h,Bool.and_assoc]
 cases hF:(chk3 s && allTo (setB 8) s.staff n) with
 | false =>
  have hN:=hfm false hF.symm
  rw[Bool.false_and]at hN
  simp -dsimp -implicitDefEqProofs (maxSteps:=2000000) (disch:=first|assumption|omega|simp only[nx];omega|(repeat apply zfp);assumption|simp only[smA];done|simp[oneCell,znp]) only[go_sem,e1,e3,e9,hF,hln,c2,Nat.zero_add]
  refine⟨_,by omega,n+1,by omega,rfl,rfl,by(simp only[go_sem,e1,hN];try rfl),by(simp only[go_sem,e3,hN];try rfl),by(simp only[go_sem,e9,hN];try rfl),rfl⟩
 | true =>
  have hN:=hfm true hF.symm
  rw[Bool.true_and]at hN
  simp -dsimp -implicitDefEqProofs (maxSteps:=2000000) (disch:=first|assumption|omega|simp only[nx];omega|(repeat apply zfp);assumption|simp only[smA];done|simp[oneCell,znp]) only[go_sem,e1,e3,e9,hF,hln,c2,indexV_eq,a0,Nat.zero_add]
  apply callV_of (e:=rfl)
  . exact From_ok _ _ _ w3
  rintro _ _ ⟨rfl,rfl⟩
  simp -dsimp -implicitDefEqProofs (maxSteps:=2000000) (disch:=first|assumption|omega|simp only[nx];omega|(repeat apply zfp);assumption|simp only[smA];done|simp[oneCell,znp]) only[go_sem,e1,e3,e9]
  refine⟨_,by omega,n+1,by omega,rfl,rfl,by(simp only[go_sem,e1,hN];try rfl),by(simp only[go_sem,e3,hN];try rfl),by(simp only[go_sem,e9,hN];try rfl),rfl⟩
theorem Tryz.undV3:Tryz.prog.underlying 3=some (.int .i64):=by kernel_rfl
theorem Tryz.undV22:Tryz.prog.underlying 22=some (.slice 73):=by kernel_rfl
theorem Tryz.undV23:Tryz.prog.underlying 23=some (.slice 71):=by kernel_rfl
theorem Tryz.undV24:Tryz.prog.underlying 24=some (.slice 3):=by kernel_rfl
theorem Tryz.cellsV3:Tryz.prog.cellsOf 3=1:=by kernel_rfl
theorem Tryz.cellsV128:Tryz.prog.cellsOf 73=3:=by kernel_rfl
theorem Tryz.cellsV132:Tryz.prog.cellsOf 71=4:=by kernel_rfl
theorem Tryz.undV128:Tryz.prog.underlying 73=some (.struct #[⟨ "Hold",3,0,false, "", "",0⟩, ⟨ "Climate",3,1,false, "", "",8⟩, ⟨ "Keys",3,2,false, "", "",16⟩]):=by kernel_rfl
theorem Tryz.undV132:Tryz.prog.underlying 71=some (.struct #[⟨ "A",3,0,false, "", "",0⟩, ⟨ "B",3,1,false, "", "",8⟩, ⟨ "Need",3,2,false, "", "",16⟩, ⟨ "Ways",24,3,false, "", "",24⟩]):=by kernel_rfl
theorem Tryz.undV26:Tryz.prog.underlying 26=some (.struct #[⟨ "Rooms",22,0,false, "", "",0⟩, ⟨ "Gates",23,1,false, "", "",24⟩, ⟨ "Staff",24,2,false, "", "",48⟩]):=by kernel_rfl
theorem given_intV {w:AW} {n:Nat} {cs:List Value} (h:Hd Tryz.prog w n 3 cs):∃ x:Int,cs=icells x:=by
 cases n with
 | zero=>exact h.elim
 | succ n =>
  simp only[Hd,Tryz.undV3]at h
  obtain⟨i,rfl,h1,h2⟩:=h
  exact⟨i,rfl⟩
theorem rows_ofV {α:Type} {enc:α->List Value} {rows:List (List Value)} (h:∀ r ∈ rows,∃ x:α,r=enc x):∃ xs:List α,rows=xs.map enc:=by
 induction rows with
 | nil=>exact⟨[],rfl⟩
 | cons r rows ih =>
  obtain⟨x,hx⟩:=h r List.mem_cons_self
  obtain⟨xs,hxs⟩:=ih fun q hq=>h q (List.mem_cons_of_mem _ hq)
  exact⟨x :: xs,by rw[hx,hxs];rfl⟩
theorem given_intsW {w:AW} {n:Nat} {cs:List Value} (h:Hd Tryz.prog w n 24 cs):∃ v,cs=[v]/\∃ xs,ArrOf w 1 icells v xs:=by
 cases n with
 | zero=>exact h.elim
 | succ n =>
  simp only[Hd,Tryz.undV24,Tryz.cellsV3]at h
  obtain⟨v,rows,rfl,ha,hr,_⟩:=h
  obtain⟨xs,rfl⟩:=rows_ofV (enc:=icells) fun r hq=>given_intV (hr r hq)
  exact⟨v,rfl,xs,ha⟩
theorem given_room {w:AW} {n:Nat} {cs:List Value} (h:Hd Tryz.prog w n 73 cs):∃ r:RoomN,cs=rcells r:=by
 cases n with
 | zero=>exact h.elim
 | succ n =>
  simp only[Hd,Tryz.undV128]at h
  obtain⟨parts,hc,hl,hp⟩:=h
  match parts,hl with
  | [p0,p1,p2],_ =>
   obtain⟨a,rfl⟩:=given_intV (hp 0 _ p0 rfl rfl)
   obtain⟨b,rfl⟩:=given_intV (hp 1 _ p1 rfl rfl)
   obtain⟨c,rfl⟩:=given_intV (hp 2 _ p2 rfl rfl)
   exact⟨⟨a,b,c⟩,by rw[hc];rfl⟩
theorem given_rooms {w:AW} {n:Nat} {cs:List Value} (h:Hd Tryz.prog w n 22 cs):∃ v,cs=[v]/\∃ xs,ArrOf w 3 rcells v xs:=by
 cases n with
 | zero=>exact h.elim
 | succ n =>
  simp only[Hd,Tryz.undV22,Tryz.cellsV128]at h
  obtain⟨v,rows,rfl,ha,hr,_⟩:=h
  obtain⟨xs,rfl⟩:=rows_ofV (enc:=rcells) fun r hq=>given_room (hr r hq)
  exact⟨v,rfl,xs,ha⟩
theorem given_gate {w:AW} {n:Nat} {cs:List Value} (h:Hd Tryz.prog w n 71 cs):∃ p:GateN × Value,cs=gcells p/\ArrOf w 1 icells p.2 p.1.ways:=by
 cases n with
 | zero=>exact h.elim
 | succ n =>
  simp only[Hd,Tryz.undV132]at h
  obtain⟨parts,hc,hl,hp⟩:=h
  match parts,hl with
  | [p0,p1,p2,p3],_ =>
   obtain⟨a,rfl⟩:=given_intV (hp 0 _ p0 rfl rfl)
   obtain⟨b,rfl⟩:=given_intV (hp 1 _ p1 rfl rfl)
   obtain⟨c,rfl⟩:=given_intV (hp 2 _ p2 rfl rfl)
   obtain⟨v,rfl,xs,hx⟩:=given_intsW (hp 3 _ p3 rfl rfl)
   exact⟨(⟨a,b,c,xs⟩,v),by rw[hc];rfl,hx⟩
theorem rows_ofP {α:Type} {enc:α->List Value} {Q:α->Prop} {rows:List (List Value)} (h:∀ r ∈ rows,∃ x:α,r=enc x/\Q x):∃ xs:List α,rows=xs.map enc/\∀ x ∈ xs,Q x:=by
 induction rows with
 | nil=>exact⟨[],rfl,fun _ h=>by cases h⟩
 | cons r rows ih =>
  obtain⟨x,hx,hr⟩:=h r List.mem_cons_self
  obtain⟨xs,hxs,hr2⟩:=ih fun q hq=>h q (List.mem_cons_of_mem _ hq)
  exact ⟨x :: xs,by rw[hx,hxs];rfl,fun y hy=>by
   rcases List.mem_cons.1 hy with rfl|hy
   . exact hr
   . exact hr2 y hy⟩
theorem given_gates {w:AW} {n:Nat} {cs:List Value} (h:Hd Tryz.prog w n 23 cs):∃ v,cs=[v]/\∃ xs,GatesAt w v xs:=by
 cases n with
 | zero=>exact h.elim
 | succ n =>
  simp only[Hd,Tryz.undV23,Tryz.cellsV132]at h
  obtain⟨v,rows,rfl,ha,hr,_⟩:=h
  obtain⟨xs,rfl,hq⟩:=rows_ofP (enc:=gcells) (Q:=fun p=>ArrOf w 1 icells p.2 p.1.ways) fun r hq=>given_gate (hr r hq)
  exact⟨v,rfl,xs.map Prod.fst,xs,rfl,ha,hq⟩
theorem given_strong {w:AW} {n:Nat} {v:Value} (h:HdV Tryz.prog w n 26 v):∃ (s:StrN) (pR pG pS:Option Addr) (cR cG cS:Nat),v=.agg (strC pR pG pS cR cG cS s).toArray/\StrAt w pR pG pS cR cG cS s:=by
 simp only[HdV,Tryz.undV26]at h
 obtain⟨cs,rfl,h⟩:=h
 cases n with
 | zero=>exact h.elim
 | succ n =>
  simp only[Hd,Tryz.undV26]at h
  obtain⟨parts,hc,hl,hp⟩:=h
  match parts,hl with
  | [p0,p1,p2],_ =>
   obtain⟨u,rfl,xs,hx⟩:=given_rooms (hp 0 _ p0 rfl rfl)
   obtain⟨z,rfl,ys,hy⟩:=given_gates (hp 1 _ p1 rfl rfl)
   obtain⟨q,rfl,ss,hss⟩:=given_intsW (hp 2 _ p2 rfl rfl)
   obtain⟨pR,cR,rfl,_⟩:=id hx.open
   have hg:∃ p c,z=.slice p ys.length c:=by
    obtain⟨ws,rfl,hA,_⟩:=hy
    obtain⟨p,c,rfl,_⟩:=hA.open
    exact⟨p,c,by simp⟩
   obtain⟨pG,cG,rfl⟩:=hg
   obtain⟨pS,cS,rfl,_⟩:=id hss.open
   refine⟨⟨xs,ys,ss⟩,pR,pG,pS,cR,cG,cS,?_,hx,hy,hss⟩
   rw[show cs=cs.toList.toArray from rfl,hc];rfl
theorem given_intX {w:AW} {n:Nat} {v:Value} (h:HdV Tryz.prog w n 3 v):∃ x:Int,v=.int .i64 x:=by
 simp only[HdV,Tryz.undV3]at h
 obtain⟨i,hi⟩:=given_intV h
 injection hi with hi _
 exact⟨i,hi⟩
def Tryz.s24:SC:=(.seq (.ops false [zo 4 (.assign (.const (.bool false))) 4]) (.seq (.ops false [zo 7 (.move (zv 0)) 24,zo 8 (.call ⟨.builtin .len,⟨[(zv 7)]⟩,⟨[24]⟩⟩) 3,zo 9 (.move (zv 1)) 24,zo 10 (.call ⟨.builtin .len,⟨[(zv 9)]⟩,⟨[24]⟩⟩) 3,zo 11 (.binOp .eql 3 (zv 8) (zv 10) 3) 4,zo 5 (.assign (zv 11)) 4]) (.seq (.seq (.ops false [zo 6 (.assign (zk 0)) 3]) (.block 0 (.loop (.seq (.seq (.ops false [zo 12 (.move (zv 5)) 4,zo 13 (.move (zv 12)) 4,zg 14 (.move (zv 6)) 3 13 true,zg 15 (.move (zv 0)) 24 13 true,zg 16 (.call ⟨.builtin .len,⟨[(zv 15)]⟩,⟨[24]⟩⟩) 3 13 true,zg 17 (.binOp .lss 3 (zv 14) (zv 16) 3) 4 13 true,zo 18 (.pick (zv 13) (zv 17) (.const (.bool false))) 4]) (.cond (.tmp 18) .skip (.exit 0))) (.seq (.block 1 (.ops true [zt 21 (.move (zv 0)) 24,zt 22 (.move (zv 6)) 3,zt 23 (.indexAddr 24 (zv 21) (zv 22)) 0,zt 24 (.load 3 (zv 23)) 3,zt 25 (.move (zv 1)) 24,zt 26 (.move (zv 6)) 3,zt 27 (.indexAddr 24 (zv 25) (zv 26)) 0,zt 28 (.load 3 (zv 27)) 3,zt 29 (.binOp .eql 3 (zv 24) (zv 28) 3) 4,zt 5 (.assign (zv 29)) 4])) (.ops false [zo 19 (.move (zv 6)) 3,zo 20 (.binOp .add 3 (zv 19) (zk 1) 3) 3,zo 6 (.assign (zv 20)) 3])))))) (.seq (.ops false [zo 30 (.move (zv 5)) 4,zo 4 (.assign (zv 30)) 4]) .ret))))
theorem Tryz.s24_eq:Tryz.f24.body.map sOf=some Tryz.s24:=by kernel_rfl
end Go.Proofs

namespace Go.Sim
open Go Go.RowKit
theorem aNew_first {w:AW} {size m:Nat} {x:Value} {new:List Value} (h:aNew w size m x=some new) (hm:1≤m):aFirst w size m x=some new:=by
 unfold aNew at h
 cases q:aFirst w size m x with
 | some l=>rw[q]at h;exact h
 | none =>
  rw[q]at h
  cases m with
  | zero=>omega
  | succ m=>cases h
theorem append_own0R {g:Prg} {w:AW} {B:Nat} {ty e:TypeId} {a1 a2:Bool} {n1 b1 size b2:Nat} {d2:TypeDesc} {z1 z2:Value} (h:g.ty ty=some ⟨a1,.slice e,n1,b1,z1⟩) (h2:g.ty e=some ⟨a2,d2,size,b2,z2⟩) (hz:z2.cells.size=size) (hs:1≤size)
    {v:Value} {n:Nat} {cells:List Value} (hv:AOwn B w e size v n cells) (f:Fresh w) (hB:B≤w.next) {x:Value} {m cap:Nat} {p:Option Addr} {new:List Value} (hx:x=.slice p m cap) (hnew:aNew w size m x=some new) (hlen:new.length=m * size) (h1:∀ y ∈ new,oneCell y=true) (hr1:n+m≤140737488355328) (hr2:(n+m) * b2≤140737488355328) :
    ∃ v' w',append g w ty ty v x=some (v',w')/\AOwn B w' e size v' (n+m) (cells++new)/\Keep B w w'/\Fresh w'/\WLe w w':=by
 by_cases hm:1≤m
 · obtain ⟨v',w',a,b,c,d,_,ap⟩:=append_own2R h h2 hz hs hv f hB hx (aNew_first hnew hm) hlen h1 hm hr1 hr2
   exact ⟨v',w',a,b,c,d,fun j y hj=>by
    by_cases q:j < w.next
    . rw[ap.1 j q];exact hj
    . rw[f.1 j (by omega)]at hj;cases hj⟩
 obtain rfl:m=0:=by omega
 obtain rfl:new=[]:=List.length_eq_zero_iff.mp (by rw[hlen];omega)
 subst hx
 have cond:(Nat.beq z2.cells.size size && Nat.ble (n+0) room && Nat.ble ((n+0) * b2) room && Nat.ble 1 size && Nat.beq ty ty)=true:=by
  have:room=140737488355328:=rfl
  simp only[Bool.and_eq_true]
  refine⟨⟨⟨⟨by rw[hz];exact Nat.beq_refl _,Nat.ble_eq.mpr (by omega)⟩,Nat.ble_eq.mpr (by omega)⟩,Nat.ble_eq.mpr hs⟩,Nat.beq_refl _⟩
 refine⟨v,w,?_,by rw[List.append_nil];exact hv,.refl _ _,f,WLe.refl w⟩
 rcases hv with ⟨rfl,rfl,rfl⟩|⟨b,r,rfl,_⟩
 . unfold append
   simp only[h,h2,cond,hnew]
 . have hle:Nat.ble (n+0) n=true:=Nat.ble_eq.mpr (by omega)
   unfold append
   simp only[h,h2,cond,hnew,hle,aStores]
   rfl
theorem AOwn.weak {B C:Nat} {w:AW} {e:TypeId} {size n:Nat} {v:Value} {cells:List Value} (h:AOwn B w e size v n cells) (k:C≤B):AOwn C w e size v n cells:=by
 rcases h with h|⟨b,r,a1,a2,a3,a4,a5,a6,a7,a9,a8⟩
 . exact .inl h
 . exact .inr ⟨b,r,a1,by omega,a3,by omega,a5,a6,a7,a9,fun j hj=>let ⟨x,y⟩:=a8 j hj;⟨by omega,y⟩⟩
end Go.Sim

namespace Go.Proofs
open Go Go.RowKit Go.Sim
set_option maxRecDepth 100000
theorem icells_ones (A:List Int):∀ v ∈ A.flatMap icells,oneCell v=true:=fun v hv=>by
 obtain⟨y,_,hy⟩:=List.mem_flatMap.1 hv
 exact icells_one y v hy
theorem Tryz.ty135:(prg Tryz.prog).ty 135=some ⟨false,(.slice 77),1,24,.slice none 0 0⟩:=by kernel_rfl
attribute [go_sem] Tryz.ty135
theorem Tryz.ia135 (t:Tmps) (w:AW) (x y:Operand):fast (prg Tryz.prog) t w (.indexAddr 135 x y)=indexV 1 (ev t x) (ev t y):=fast_indexAddr Tryz.ty135 Tryz.ty77
attribute [go_sem] Tryz.ia135
theorem Tryz.ln135 (t:Tmps) (w:AW) (x:Operand):fast (prg Tryz.prog) t w (.call ⟨.builtin .len,⟨[x]⟩,⟨[135]⟩⟩)=lenV (ev t x):=fast_len Tryz.ty135
attribute [go_sem] Tryz.ln135
end Go.Proofs
