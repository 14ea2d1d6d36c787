/- This program: its code, contracts, numbers, part 7. -/
import Derived.Test.YtnbfkakjdifcpaaGreatPae
import Derived.Test.YtnbfkakjdifcpaaGreatPaf
set_option linter.unusedVariables false
set_option linter.unusedSimpArgs false
namespace Go.Proofs
open Go Go.RowKit Go.Sim
set_option maxRecDepth 100000
theorem take_eq {L M:List Int} {i:Nat} (h:L.take i=M.take i) (a:i < L.length) (b:i < M.length):(L.take (i+1)=M.take (i+1))↔L[i]=M[i]:=by
 rw[List.take_succ_eq_append_getElem a,List.take_succ_eq_append_getElem b,h]
 exact⟨fun e=>by have:=List.append_cancel_left e;injection this,fun e=>by rw[e]⟩
set_option maxHeartbeats 4000000 in
theorem Same_ok (L M:List Int) (u v:Value) (w:AW) (hL:ArrOf w 1 icells u L) (hM:ArrOf w 1 icells v M) :
    CallT Tryz.prog Tryz.T1 (.fn (.func 24) #[]) #[u,v] w (Ret (.bool (decide (L=M))) fun w'=>w=w'):=by
 obtain⟨p,cap,rfl,_,_,hatC⟩:=id hL.open
 obtain⟨q,cq,rfl,_,_,hatH⟩:=id hM.open
 refine callT_code rfl Tryz.func24 rfl Tryz.s24_eq rfl ?_
 delta Tryz.s24 zo zt zg zv zk
 by_cases hl:(L.length:Int)=(M.length:Int)
 case neg =>
  have hd:decide ((L.length:Int)=(M.length:Int))=false:=decide_eq_false hl
  have hE:decide (L=M)=false:=decide_eq_false fun e=>hl (by rw[e])
  simp -dsimp -implicitDefEqProofs (maxSteps:=2000000) (disch:=first|assumption|omega|simp only[nx];omega|(repeat apply zfp);assumption|simp only[smA];done|simp[oneCell,znp]) only[go_sem,hd]
  refine loopR (fun k t ds w1=>∃ i:Nat,i≤0/\k=0 - i/\ds=[]/\ev t (.tmp 5)=.bool false/\w=w1) (0) ?_ ?_
  . refine⟨0,by omega,by omega,rfl,?_,rfl⟩ <;> simp -dsimp -implicitDefEqProofs (maxSteps:=2000000) (disch:=first|assumption|omega|simp only[nx];omega|(repeat apply zfp);assumption|simp only[smA];done|simp[oneCell,znp]) only[go_sem] <;> rfl
  rintro k t ds w1 ⟨i,hii,rfl,rfl,e5,hw⟩
  subst hw
  simp -dsimp -implicitDefEqProofs (maxSteps:=2000000) (disch:=first|assumption|omega|simp only[nx];omega|(repeat apply zfp);assumption|simp only[smA];done|simp[oneCell,znp]) only[go_sem,e5]
  exact⟨by rw[hE],rfl⟩
 have hd:decide ((L.length:Int)=(M.length:Int))=true:=decide_eq_true hl
 simp -dsimp -implicitDefEqProofs (maxSteps:=2000000) (disch:=first|assumption|omega|simp only[nx];omega|(repeat apply zfp);assumption|simp only[smA];done|simp[oneCell,znp]) only[go_sem,hd]
 refine loopR (fun k t ds w1=>∃ i:Nat,i≤L.length/\k=L.length - i/\ds=[]/\ev t (.tmp 0)=.slice p L.length cap/\ev t (.tmp 1)=.slice q M.length cq/\ev t (.tmp 6)=.int .i64 (i:Int)/\w=w1/\∃ B,ev t (.tmp 5)=.bool B/\(B=true->L.take i=M.take i)/\(B=false->L ≠ M)) (L.length) ?_ ?_
 . refine⟨0,by omega,by omega,rfl,?_,?_,?_,rfl,⟨true,(by simp -dsimp -implicitDefEqProofs (maxSteps:=2000000) (disch:=first|assumption|omega|simp only[nx];omega|(repeat apply zfp);assumption|simp only[smA];done|simp[oneCell,znp]) only[go_sem];try rfl),(fun _=>rfl),fun h=>by cases h⟩⟩ <;> simp -dsimp -implicitDefEqProofs (maxSteps:=2000000) (disch:=first|assumption|omega|simp only[nx];omega|(repeat apply zfp);assumption|simp only[smA];done|simp[oneCell,znp]) only[go_sem] <;> rfl
 rintro k t ds w1 ⟨i,hii,rfl,rfl,e0,e1,e6,hw,hB⟩
 subst hw
 obtain⟨B,e5,hB1,hB2⟩:=hB
 cases B with
 | false =>
  simp -dsimp -implicitDefEqProofs (maxSteps:=2000000) (disch:=first|assumption|omega|simp only[nx];omega|(repeat apply zfp);assumption|simp only[smA];done|simp[oneCell,znp]) only[go_sem,e5]
  exact⟨by rw[decide_eq_false (hB2 rfl)],rfl⟩
 | true =>
 have ha:=hB1 rfl
 by_cases hlt:(i:Int) < (L.length:Int)
 case neg =>
  obtain rfl:i=L.length:=by omega
  have hE:L=M:=by rw[List.take_of_length_le (Nat.le_refl _),List.take_of_length_le (by omega)]at ha;exact ha
  simp -dsimp -implicitDefEqProofs (maxSteps:=2000000) (disch:=first|assumption|omega|simp only[nx];omega|(repeat apply zfp);assumption|simp only[smA];done|simp[oneCell,znp]) only[go_sem,e0,e1,e5,e6,hlt]
  exact⟨by rw[decide_eq_true hE],rfl⟩
 have hlt':i < L.length:=by omega
 have hltM:i < M.length:=by omega
 have hltM':(i:Int) < (M.length:Int):=by omega
 have hte:=take_eq ha hlt' hltM
 obtain⟨b1,o1,rfl,hb1,hc1⟩:=hatC i hlt'
 obtain⟨b2,o2,rfl,hb2,hc2⟩:=hatH i hltM
 have aC:=hc1 _ (Keep.refl _ _) 0 _ rfl
 have aH:=hc2 _ (Keep.refl _ _) 0 _ rfl
 simp only[Nat.add_zero]at aC aH
 by_cases hq:L[i]=M[i]
 . have hqd:decide (L[i]=M[i])=true:=decide_eq_true hq
   simp -dsimp -implicitDefEqProofs (maxSteps:=2000000) (disch:=first|assumption|omega|simp only[nx];omega|(repeat apply zfp);assumption|simp only[smA];done|simp[oneCell,znp]) only[go_sem,e0,e1,e5,e6,hlt,hltM',indexV_eq,aC,aH,hqd]
   refine⟨_,by omega,i+1,by omega,rfl,rfl,by(simp only[go_sem,e0];try rfl),by(simp only[go_sem,e1];try rfl),by(simp only[go_sem,e6];try rfl),rfl,⟨true,(by simp -dsimp -implicitDefEqProofs (maxSteps:=2000000) (disch:=first|assumption|omega|simp only[nx];omega|(repeat apply zfp);assumption|simp only[smA];done|simp[oneCell,znp]) only[go_sem];try rfl),(fun _=>hte.2 hq),fun h=>by cases h⟩⟩
 . have hqd:decide (L[i]=M[i])=false:=decide_eq_false hq
   simp -dsimp -implicitDefEqProofs (maxSteps:=2000000) (disch:=first|assumption|omega|simp only[nx];omega|(repeat apply zfp);assumption|simp only[smA];done|simp[oneCell,znp]) only[go_sem,e0,e1,e5,e6,hlt,hltM',indexV_eq,aC,aH,hqd]
   refine⟨_,by omega,i+1,by omega,rfl,rfl,by(simp only[go_sem,e0];try rfl),by(simp only[go_sem,e1];try rfl),by(simp only[go_sem,e6];try rfl),rfl,⟨false,(by simp -dsimp -implicitDefEqProofs (maxSteps:=2000000) (disch:=first|assumption|omega|simp only[nx];omega|(repeat apply zfp);assumption|simp only[smA];done|simp[oneCell,znp]) only[go_sem];try rfl),(fun h=>by cases h),fun _ e=>hq (hte.1 (by rw[e]))⟩⟩
end Go.Proofs
