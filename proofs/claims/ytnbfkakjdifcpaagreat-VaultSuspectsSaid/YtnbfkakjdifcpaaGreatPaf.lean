/- This program: its code, contracts, numbers, part 6. -/
import Derived.Test.YtnbfkakjdifcpaaGreatPae
import Derived.Test.YtnbfkakjdifcpaaGreatPad
import Derived.Test.YtnbfkakjdifcpaaGreatChecked
import Derived.Test.YtnbfkakjdifcpaaGreatCz
import Derived.Test.YtnbfkakjdifcpaaGreatNd
set_option linter.unusedVariables false
set_option linter.unusedSimpArgs false
namespace Go.Proofs
open Go Go.RowKit Go.Sim
set_option maxRecDepth 100000
theorem Seek_ok (L:List Nat) (x:Nat) (v:Value) (w:AW) (hv:ArrOf w 1 icells v (natsL L)):CallT Tryz.prog Tryz.T1 (.fn (.func 92) #[]) #[v,.int .i64 (x:Int)] w (fun r w'=>w=w'/\∃ n:Int,r=.int .i64 n/\decide (n < 0) = !L.contains x):=by
 obtain⟨p,c,rfl,hb,hat⟩:=nats_at hv
 refine callT_code rfl Tryz.func92 rfl Tryz.s92_eq rfl ?_
 delta Tryz.s92 zo zv zk
 simp -dsimp -implicitDefEqProofs (maxSteps:=2000000) (disch:=first|assumption|omega|simp only[nx];omega|(repeat apply zfp);assumption|simp only[smA];done|simp[oneCell,znp]) only[go_sem]
 refine loopR (fun k t ds w1=>∃ i:Nat,i≤L.length/\k=L.length - i/\ds=[]/\ev t (.tmp 0)=.slice p L.length c/\ev t (.tmp 1)=.int .i64 (x:Int)/\ev t (.tmp 5)=.int .i64 (i:Int)/\(∀ j,(h:j < L.length)->j < i->L[j] ≠ x)/\w=w1) (L.length) ?_ ?_
 . refine⟨0,by omega,by omega,rfl,?_,?_,?_,fun j h q=>by omega,rfl⟩ <;> simp -dsimp -implicitDefEqProofs (maxSteps:=2000000) (disch:=first|assumption|omega|simp only[nx];omega|(repeat apply zfp);assumption|simp only[smA];done|simp[oneCell,znp]) only[go_sem] <;> rfl
 rintro k t ds w1 ⟨i,hii,rfl,rfl,e0,e1,e5,hno,hw⟩
 subst hw
 by_cases hlt:(i:Int) < (L.length:Int)
 case neg =>
  obtain rfl:i=L.length:=by omega
  simp -dsimp -implicitDefEqProofs (maxSteps:=2000000) (disch:=first|assumption|omega|simp only[nx];omega|(repeat apply zfp);assumption|simp only[smA];done|simp[oneCell,znp]) only[go_sem,e0,e1,e5,hlt]
  refine⟨trivial,-1,rfl,?_⟩
  have:L.contains x=false:=by
   rw[Bool.eq_false_iff];intro z
   rw[List.contains_iff_mem]at z
   obtain⟨j,hj,e⟩:=List.getElem_of_mem z
   exact hno j hj hj e
  rw[this];rfl
 have hlt':i < L.length:=by omega
 obtain⟨b,o,rfl,hc⟩:=hat i hlt'
 have a0:=hc w (.refl _ _)
 have hmem:=List.getElem_mem hlt'
 have hnext:L[i] ≠ x->∀ j,(h:j < L.length)->j < i+1->L[j] ≠ x:=fun q j h hj=>by
  rcases Nat.lt_or_ge j i with z|z
  . exact hno j h z
  . obtain rfl:j=i:=by omega
    exact q
 generalize L[i]=y at *
 by_cases hq:(y:Int)=(x:Int)
 . have hd:decide ((y:Int)=(x:Int))=true:=decide_eq_true hq
   simp -dsimp -implicitDefEqProofs (maxSteps:=2000000) (disch:=first|assumption|omega|simp only[nx];omega|(repeat apply zfp);assumption|simp only[smA];done|simp[oneCell,znp]) only[go_sem,e0,e1,e5,hlt,indexV_eq,Nat.mul_one,a0,hd]
   refine⟨trivial,i,rfl,?_⟩
   have:L.contains x=true:=List.contains_iff_mem.2 (by rw[show x=y by omega];exact hmem)
   rw[this,decide_eq_false (by omega)];rfl
 . have hd:decide ((y:Int)=(x:Int))=false:=decide_eq_false hq
   simp -dsimp -implicitDefEqProofs (maxSteps:=2000000) (disch:=first|assumption|omega|simp only[nx];omega|(repeat apply zfp);assumption|simp only[smA];done|simp[oneCell,znp]) only[go_sem,e0,e1,e5,hlt,indexV_eq,Nat.mul_one,a0,hd]
   refine⟨_,by omega,i+1,by omega,rfl,rfl,by(simp only[go_sem,e0];try rfl),by(simp only[go_sem,e1];try rfl),by(simp only[go_sem,e5];try rfl),hnext (by omega),rfl⟩
def rowL (L:List Nat) (n k:Nat):List Nat:=(List.range k).filter fun x=>decide (popN x=n) && L.contains x
def preL (L:List Nat) (n k:Nat):List Nat:=((List.range n).flatMap fun i=>rowL L i 64)++rowL L n k
theorem preL_row (L:List Nat) (n:Nat):preL L n 64=preL L (n+1) 0:=by
 unfold preL
 rw[List.range_succ,List.flatMap_append]
 simp[rowL]
theorem rowL_yes {L:List Nat} {n k:Nat} (h:(decide (popN k=n) && L.contains k)=true):rowL L n (k+1)=rowL L n k++[k]:=by
 unfold rowL
 rw[List.range_succ,List.filter_append]
 congr 1
 rw[List.filter_cons,if_pos h,List.filter_nil]
theorem rowL_no {L:List Nat} {n k:Nat} (h:(decide (popN k=n) && L.contains k)=false):rowL L n (k+1)=rowL L n k:=by
 unfold rowL
 rw[List.range_succ,List.filter_append,List.filter_cons,if_neg (by rw[h];intro z;cases z),List.filter_nil,List.append_nil]
theorem preL_yes {L:List Nat} {n k:Nat} (h1:popN k=n) (h2:L.contains k=true):preL L n (k+1)=preL L n k++[k]:=by
 unfold preL
 rw[rowL_yes (by rw[h2,decide_eq_true h1];rfl),List.append_assoc]
theorem preL_no {L:List Nat} {n k:Nat} (h:(decide (popN k=n) && L.contains k)=false):preL L n (k+1)=preL L n k:=by
 unfold preL
 rw[rowL_no h]
def ordL (L:List Nat):List Nat:=preL L 7 0
theorem minL_snoc (A:List Nat) (x:Nat):minL (A++[x])=keepL (minL A) x:=by unfold minL;rw[List.foldl_append];rfl
theorem mem_pre {L:List Nat} {n k x:Nat} (h:x ∈ preL L n k) (hk:k≤64):x < 64/\x ∈ L:=by
 unfold preL at h
 rcases List.mem_append.1 h with q|q
 . obtain⟨i,_,hq⟩:=List.mem_flatMap.1 q
   unfold rowL at hq
   have:=List.mem_filter.1 hq
   simp only[Bool.and_eq_true,List.contains_iff_mem]at this
   exact⟨List.mem_range.1 this.1,this.2.2⟩
 . unfold rowL at q
   have:=List.mem_filter.1 q
   simp only[Bool.and_eq_true,List.contains_iff_mem]at this
   have h1:=List.mem_range.1 this.1
   exact⟨by omega,this.2.2⟩
theorem rowL_len (L:List Nat) (n k:Nat):(rowL L n k).length≤k:=by
 have:=List.length_filter_le (fun x=>decide (popN x=n) && L.contains x) (List.range k)
 rw[List.length_range]at this;exact this
theorem preL_len (L:List Nat):∀ n k,(preL L n k).length≤64 * n+k
 | 0,k=>by
  have:=rowL_len L 0 k
  show (([]:List Nat)++rowL L 0 k).length≤_
  rw[List.nil_append];omega
 | n + 1,k=>by
  have h1:=preL_len L n 64
  have h2:=rowL_len L (n+1) k
  have e:preL L (n+1) k=preL L n 64++rowL L (n+1) k:=by
   have h:=preL_row L n
   unfold preL at h ⊢
   rw[h,List.append_assoc]
   rfl
  rw[e,List.length_append];omega
theorem minL_len (S:List Nat):(minL S).length≤S.length:=by
 have:=minTo_len S _ (Nat.le_refl _)
 rw[minTo_all]at this;exact this
set_option maxHeartbeats 16000000 in
theorem LeastR_ok (L:List Nat) (v:Value) (w:AW) (f:Fresh w) (hv:ArrOf w 1 icells v (natsL L)) :
    CallT Tryz.prog Tryz.T1 (.fn (.func 64) #[]) #[v] w (fun u w'=>Grown w w'/\RowS 3 w.next w' u (minL (ordL L))):=by
 refine callT_code rfl Tryz.func64 rfl Tryz.s64_eq rfl ?_
 delta Tryz.s64 zo zg zv zk
 simp -dsimp -implicitDefEqProofs (maxSteps:=2000000) (disch:=first|assumption|omega|simp only[nx];omega|(repeat apply zfp);assumption|simp only[smA];done|simp[oneCell,znp]) only[go_sem]
 refine loopR (fun k t ds w1=>∃ n:Nat,n≤7/\k=7 - n/\ds=[]/\ev t (.tmp 0)=v/\ev t (.tmp 4)=.int .i64 (n:Int)/\∃ out:Value,ev t (.tmp 3)=out/\RowS 3 w.next w1 out (minL (preL L n 0))/\Keep w.next w w1/\Fresh w1) (7) ?_ ?_
 . refine⟨0,by omega,by omega,rfl,?_,?_,_,(by simp -dsimp -implicitDefEqProofs (maxSteps:=2000000) (disch:=first|assumption|omega|simp only[nx];omega|(repeat apply zfp);assumption|simp only[smA];done|simp[oneCell,znp]) only[go_sem]),RowS.nil _ _ _,.refl _ _,f⟩ <;> simp -dsimp -implicitDefEqProofs (maxSteps:=2000000) (disch:=first|assumption|omega|simp only[nx];omega|(repeat apply zfp);assumption|simp only[smA];done|simp[oneCell,znp]) only[go_sem] <;> rfl
 rintro k t ds w1 ⟨n,hin,rfl,rfl,e0,e4,out,e3,hO,k1,f1⟩
 by_cases hlt:(n:Int)≤6
 case neg =>
  obtain rfl:n=7:=by omega
  simp -dsimp -implicitDefEqProofs (maxSteps:=2000000) (disch:=first|assumption|omega|simp only[nx];omega|(repeat apply zfp);assumption|simp only[smA];done|simp[oneCell,znp]) only[go_sem,e0,e3,e4,hlt]
  exact⟨⟨k1,f1⟩,hO⟩
 simp -dsimp -implicitDefEqProofs (maxSteps:=2000000) (disch:=first|assumption|omega|simp only[nx];omega|(repeat apply zfp);assumption|simp only[smA];done|simp[oneCell,znp]) only[go_sem,e0,e3,e4,hlt]
 refine loopR (fun k t ds w2=>∃ x:Nat,x≤64/\k=64 - x/\ds=[]/\ev t (.tmp 0)=v/\ev t (.tmp 4)=.int .i64 (n:Int)/\ev t (.tmp 5)=.int .i64 (x:Int)/\∃ out2:Value,ev t (.tmp 3)=out2/\RowS 3 w.next w2 out2 (minL (preL L n x))/\Keep w.next w w2/\Fresh w2) (64) ?_ ?_
 . refine⟨0,by omega,by omega,rfl,?_,?_,?_,out,(by simp -dsimp -implicitDefEqProofs (maxSteps:=2000000) (disch:=first|assumption|omega|simp only[nx];omega|(repeat apply zfp);assumption|simp only[smA];done|simp[oneCell,znp]) only[go_sem,e3]),hO,k1,f1⟩ <;> simp -dsimp -implicitDefEqProofs (maxSteps:=2000000) (disch:=first|assumption|omega|simp only[nx];omega|(repeat apply zfp);assumption|simp only[smA];done|simp[oneCell,znp]) only[go_sem,e0,e4] <;> rfl
 rintro k t ds w2 ⟨x,hix,rfl,rfl,e0,e4,e5,out2,e3,hO2,k2,f2⟩
 by_cases hlx:(x:Int) < 64
 case neg =>
  obtain rfl:x=64:=by omega
  rw[preL_row]at hO2
  simp -dsimp -implicitDefEqProofs (maxSteps:=2000000) (disch:=first|assumption|omega|simp only[nx];omega|(repeat apply zfp);assumption|simp only[smA];done|simp[oneCell,znp]) only[go_sem,e0,e3,e4,e5,hlx]
  refine⟨_,by omega,n+1,by omega,rfl,rfl,by(simp only[go_sem,e0];try rfl),by(simp only[go_sem,e4];try rfl),out2,(by simp -dsimp -implicitDefEqProofs (maxSteps:=2000000) (disch:=first|assumption|omega|simp only[nx];omega|(repeat apply zfp);assumption|simp only[smA];done|simp[oneCell,znp]) only[go_sem,e3]),hO2,k2,f2⟩
 have hv2:=hv.kept k2
 simp -dsimp -implicitDefEqProofs (maxSteps:=2000000) (disch:=first|assumption|omega|simp only[nx];omega|(repeat apply zfp);assumption|simp only[smA];done|simp[oneCell,znp]) only[go_sem,e0,e3,e4,e5,hlx]
 apply callV_of (e:=rfl)
 . exact people_okR x (by omega) w2
 rintro _ _ ⟨rfl,rfl⟩
 by_cases hp:popN x=n
 case neg =>
  have hd:decide ((popN x:Int)=(n:Int))=false:=decide_eq_false (by omega)
  have hN:=preL_no (L:=L) (n:=n) (k:=x) (by rw[decide_eq_false hp];rfl)
  rw[<- hN]at hO2
  simp -dsimp -implicitDefEqProofs (maxSteps:=2000000) (disch:=first|assumption|omega|simp only[nx];omega|(repeat apply zfp);assumption|simp only[smA];done|simp[oneCell,znp]) only[go_sem,e0,e3,e4,e5,hd]
  refine⟨_,by omega,x+1,by omega,rfl,rfl,by(simp only[go_sem,e0];try rfl),by(simp only[go_sem,e4];try rfl),by(simp only[go_sem,e5];try rfl),out2,(by simp -dsimp -implicitDefEqProofs (maxSteps:=2000000) (disch:=first|assumption|omega|simp only[nx];omega|(repeat apply zfp);assumption|simp only[smA];done|simp[oneCell,znp]) only[go_sem,e3]),hO2,k2,f2⟩
 have hd:decide ((popN x:Int)=(n:Int))=true:=decide_eq_true (by omega)
 simp -dsimp -implicitDefEqProofs (maxSteps:=2000000) (disch:=first|assumption|omega|simp only[nx];omega|(repeat apply zfp);assumption|simp only[smA];done|simp[oneCell,znp]) only[go_sem,e0,e3,e4,e5,hd]
 apply callV_of (e:=rfl)
 . exact Seek_ok L x v w2 hv2
 rintro _ _ ⟨rfl,m,rfl,hm⟩
 cases hc:L.contains x with
 | false =>
  rw[hc,Bool.not_false]at hm
  have hN:=preL_no (L:=L) (n:=n) (k:=x) (by rw[hc,Bool.and_false])
  rw[<- hN]at hO2
  have hm':=of_decide_eq_true hm
  simp -dsimp -implicitDefEqProofs (maxSteps:=2000000) (disch:=first|assumption|omega|simp only[nx];omega|(repeat apply zfp);assumption|simp only[smA];done|simp[oneCell,znp]) only[go_sem,e0,e3,e4,e5,hm']
  refine⟨_,by omega,x+1,by omega,rfl,rfl,by(simp only[go_sem,e0];try rfl),by(simp only[go_sem,e4];try rfl),by(simp only[go_sem,e5];try rfl),out2,(by simp -dsimp -implicitDefEqProofs (maxSteps:=2000000) (disch:=first|assumption|omega|simp only[nx];omega|(repeat apply zfp);assumption|simp only[smA];done|simp[oneCell,znp]) only[go_sem,e3]),hO2,k2,f2⟩
 | true =>
 rw[hc,Bool.not_true]at hm
 have hm':=of_decide_eq_false hm
 have hN:=preL_yes (L:=L) (n:=n) (k:=x) hp hc
 have hlen:=minL_len (preL L n x)
 have hlen2:=preL_len L n x
 have hmem:=fun y (hy:y ∈ minL (preL L n x))=>(mem_pre (minL_mem hy) (by omega)).1
 have hsn:=minL_snoc (preL L n x) x
 rw[<- hN]at hsn
 obtain⟨A',hA'⟩:∃ A',A'=preL L n (x+1):=⟨_,rfl⟩
 rw[<- hA']at hsn
 generalize minL (preL L n x)=M at *
 have aM:=hO2.arr (by omega)
 obtain⟨pM,cM,rfl,hbM,hatM⟩:=nats_at aM
 have hz:=allTo_zero (fun y=>!subB x y) M
 simp -dsimp -implicitDefEqProofs (maxSteps:=2000000) (disch:=first|assumption|omega|simp only[nx];omega|(repeat apply zfp);assumption|simp only[smA];done|simp[oneCell,znp]) only[go_sem,e0,e3,e4,e5,hm']
 refine loopR (fun k t ds w3=>∃ i:Nat,i≤M.length/\k=M.length - i/\ds=[]/\ev t (.tmp 0)=v/\ev t (.tmp 3)=.slice pM M.length cM/\ev t (.tmp 4)=.int .i64 (n:Int)/\ev t (.tmp 5)=.int .i64 (x:Int)/\ev t (.tmp 6)=.bool (allTo (fun y=>!subB x y) M i)/\ev t (.tmp 7)=.int .i64 (i:Int)/\w2=w3) (M.length) ?_ ?_
 . refine⟨0,by omega,by omega,rfl,?_,?_,?_,?_,?_,?_,rfl⟩ <;> simp -dsimp -implicitDefEqProofs (maxSteps:=2000000) (disch:=first|assumption|omega|simp only[nx];omega|(repeat apply zfp);assumption|simp only[smA];done|simp[oneCell,znp]) only[go_sem,e0,e3,e4,e5,hz] <;> rfl
 rintro k t ds w3 ⟨i,hii,rfl,rfl,e0,e3,e4,e5,e6,e7,hw⟩
 subst hw
 by_cases hli:(i:Int) < (M.length:Int)
 case pos =>
  have hli':i < M.length:=by omega
  have hsu:=allTo_succ (b:=fun y=>!subB x y) hli'
  obtain⟨b,o,rfl,hcc⟩:=hatM i hli'
  have a0:=hcc w2 (.refl _ _)
  have hy:=hmem _ (List.getElem_mem hli')
  try simp only at hsu
  generalize M[i]=y at *
  cases hF:allTo (fun y=>!subB x y) M i with
  | false =>
   rw[hF,Bool.false_and]at hsu
   simp -dsimp -implicitDefEqProofs (maxSteps:=2000000) (disch:=first|assumption|omega|simp only[nx];omega|(repeat apply zfp);assumption|simp only[smA];done|simp[oneCell,znp]) only[go_sem,e0,e3,e4,e5,e6,e7,hli,hF]
   refine⟨_,by omega,i+1,by omega,rfl,rfl,by(simp only[go_sem,e0,hsu];try rfl),by(simp only[go_sem,e3,hsu];try rfl),by(simp only[go_sem,e4,hsu];try rfl),by(simp only[go_sem,e5,hsu];try rfl),by(simp only[go_sem,e6,hsu];try rfl),by(simp only[go_sem,e7,hsu];try rfl),rfl⟩
  | true =>
   rw[hF,Bool.true_and]at hsu
   simp -dsimp -implicitDefEqProofs (maxSteps:=2000000) (disch:=first|assumption|omega|simp only[nx];omega|(repeat apply zfp);assumption|simp only[smA];done|simp[oneCell,znp]) only[go_sem,e0,e3,e4,e5,e6,e7,hli,hF,indexV_eq,Nat.mul_one,a0]
   apply callV_of (e:=rfl)
   . exact Has_ok x y (by omega) (by omega) w2
   rintro _ _ ⟨rfl,rfl⟩
   simp -dsimp -implicitDefEqProofs (maxSteps:=2000000) (disch:=first|assumption|omega|simp only[nx];omega|(repeat apply zfp);assumption|simp only[smA];done|simp[oneCell,znp]) only[go_sem,e0,e3,e4,e5,e7]
   refine⟨_,by omega,i+1,by omega,rfl,rfl,by(simp only[go_sem,e0,hsu];try rfl),by(simp only[go_sem,e3,hsu];try rfl),by(simp only[go_sem,e4,hsu];try rfl),by(simp only[go_sem,e5,hsu];try rfl),by(simp only[go_sem,e6,hsu];try rfl),by(simp only[go_sem,e7,hsu];try rfl),rfl⟩
 obtain rfl:i=M.length:=by omega
 rw[allTo_all]at e6
 cases hk:M.any (subB x) with
 | true =>
  have hk2:(M.all fun y=>!subB x y)=false:=by rw[List.any_eq_true]at hk;rw[Bool.eq_false_iff];intro z;obtain⟨y,hy,hq⟩:=hk;have:=List.all_eq_true.1 z y hy;rw[hq]at this;cases this
  have hM:minL A'=M:=by rw[hsn,keepL,if_pos hk]
  simp -dsimp -implicitDefEqProofs (maxSteps:=2000000) (disch:=first|assumption|omega|simp only[nx];omega|(repeat apply zfp);assumption|simp only[smA];done|simp[oneCell,znp]) only[go_sem,e0,e3,e4,e5,e6,e7,hli,hk2]
  refine⟨_,by omega,x+1,by omega,rfl,rfl,by(simp only[go_sem,e0];try rfl),by(simp only[go_sem,e4];try rfl),by(simp only[go_sem,e5];try rfl),.slice pM M.length cM,(by simp -dsimp -implicitDefEqProofs (maxSteps:=2000000) (disch:=first|assumption|omega|simp only[nx];omega|(repeat apply zfp);assumption|simp only[smA];done|simp[oneCell,znp]) only[go_sem,e3]),(by rw[<- hA',hM];exact hO2),k2,f2⟩
 | false =>
  have hk2:(M.all fun y=>!subB x y)=true:=by
   rw[List.all_eq_true];intro y hy
   have:subB x y=false:=by
    rw[Bool.eq_false_iff];intro z
    rw[List.any_eq_true.2 ⟨y,hy,z⟩]at hk;cases hk
   rw[this];rfl
  have hM:minL A'=M++[x]:=by rw[hsn,keepL,if_neg (by rw[hk];intro z;cases z)]
  obtain⟨u6,w6,happ,hA6,hk6,hf6,hn6⟩:=hO2.app f2 k2.next (by omega) x
  rw[<- hM]at hA6
  simp -dsimp -implicitDefEqProofs (maxSteps:=2000000) (disch:=first|assumption|omega|simp only[nx];omega|(repeat apply zfp);assumption|simp only[smA];done|simp[oneCell,znp]) only[go_sem,e0,e3,e4,e5,e6,e7,hli,hk2,happ]
  refine⟨_,by omega,x+1,by omega,rfl,rfl,by(simp only[go_sem,e0];try rfl),by(simp only[go_sem,e4];try rfl),by(simp only[go_sem,e5];try rfl),u6,(by simp -dsimp -implicitDefEqProofs (maxSteps:=2000000) (disch:=first|assumption|omega|simp only[nx];omega|(repeat apply zfp);assumption|simp only[smA];done|simp[oneCell,znp]) only[go_sem]),(by rw[<- hA'];exact hA6),k2.trans hk6,hf6⟩
set_option maxHeartbeats 16000000 in
theorem reaching_ok {s:StrN} (hs:strB s=true) {pR pG pS:Option Addr} {cR cG cS:Nat} (rm:Nat) (hrm:rm≤8) (w:AW) (f:Fresh w) (hA:StrAt w pR pG pS cR cG cS s) :
    CallT Tryz.prog Tryz.T1 (.fn (.func 65) #[]) #[.agg (strC pR pG pS cR cG cS s).toArray,.int .i64 (rm:Int)] w (fun u w'=>Grown w w'/\RowS 3 w.next w' u (selTo (fun g=>(endR s g 1).testBit rm) (2 ^ s.staff.length))):=by
 have g1:=(Grown.refl f).push (.cells (strC pR pG pS cR cG cS s) 26 w.next 0 0)
 have O1:=Own.new f 26 (strC pR pG pS cR cG cS s)
 have hen:=fun (g:Nat) (hg:g < 64) (hgb:∀ k,g.testBit k=true->k < s.staff.length) w' (g':Grown w w')=>enter_ok hs (g:=g) hg hgb w' g'.2 (hA.grown g')
 have hsl:=(str_staff hs).2.1
 have hsh:=full_shl (n:=s.staff.length) (by omega)
 have h0:¬ (s.staff.length:Int) < 0:=by omega
 have hp:=pow6 hsl
 have hbl:∀ g,g < 2 ^ s.staff.length->∀ k,g.testBit k=true->k < s.staff.length:=fun g hg k hk=>bit_lt hg hk
 generalize 2 ^ s.staff.length=N at *
 unfold strC at *
 refine callT_code rfl Tryz.func65 rfl Tryz.s65_eq rfl ?_
 delta Tryz.s65 zo zv zk
 simp -dsimp -implicitDefEqProofs (maxSteps:=2000000) (disch:=first|assumption|omega|simp only[nx];omega|(repeat apply zfp);assumption|simp only[smA];done|simp[oneCell,znp]) only[go_sem]
 generalize w.push (.cells [.slice pR s.rooms.length cR,.slice pG s.gates.length cG,.slice pS s.staff.length cS] 26 w.next 0 0)=w1 at *
 have hn1:=g1.1.next
 refine loopR (fun k t ds w2=>∃ i:Nat,i≤N/\k=N - i/\ds=[]/\ev t (.tmp 1)=.int .i64 (rm:Int)/\ev t (.tmp 2)=.pointer (some ⟨w.next,0,none⟩)/\ev t (.tmp 6)=.int .i64 (i:Int)/\∃ out:Value,ev t (.tmp 5)=out/\RowS 3 w1.next w2 out (selTo (fun g=>(endR s g 1).testBit rm) i)/\Grown w w2/\Keep w1.next w1 w2) (N) ?_ ?_
 . refine⟨0,by omega,by omega,rfl,?_,?_,?_,_,(by simp -dsimp -implicitDefEqProofs (maxSteps:=2000000) (disch:=first|assumption|omega|simp only[nx];omega|(repeat apply zfp);assumption|simp only[smA];done|simp[oneCell,znp]) only[go_sem]),RowS.nil _ _ _,g1,.refl _ _⟩ <;> simp -dsimp -implicitDefEqProofs (maxSteps:=2000000) (disch:=first|assumption|omega|simp only[nx];omega|(repeat apply zfp);assumption|simp only[smA];done|simp[oneCell,znp]) only[go_sem] <;> rfl
 rintro k t ds w2 ⟨i,hii,rfl,rfl,e1,e2,e6,out,e5,hO,gW,k2⟩
 have O2:=O1.keep k2
 have c2:=O2.cell (o:=2) (v:=.slice pS s.staff.length cS) rfl rfl
 have hl2:=loadAll O2 (n:=3) rfl (by simp[oneCell])
 have hsel:=selTo_len (fun g=>(endR s g 1).testBit rm) i
 by_cases hlt:(i:Int) < (N:Int)
 case neg =>
  obtain rfl:i=N:=by omega
  simp -dsimp -implicitDefEqProofs (maxSteps:=2000000) (disch:=first|assumption|omega|simp only[nx];omega|(repeat apply zfp);assumption|simp only[smA];done|simp[oneCell,znp]) only[go_sem,e1,e2,e5,e6,c2,h0,hsh,hlt,Nat.zero_add]
  exact⟨gW,AOwn.weak hO hn1⟩
 simp -dsimp -implicitDefEqProofs (maxSteps:=2000000) (disch:=first|assumption|omega|simp only[nx];omega|(repeat apply zfp);assumption|simp only[smA];done|simp[oneCell,znp]) only[go_sem,e1,e2,e5,e6,c2,h0,hsh,hlt,hl2,Nat.zero_add]
 apply callV_of (e:=rfl)
 . exact hen i (by omega) (hbl i (by omega)) w2 gW
 rintro _ w3 ⟨rfl,g3⟩
 have hO3:=hO.keep g3.1
 have k3:=k2.trans (g3.1.mono k2.next)
 simp -dsimp -implicitDefEqProofs (maxSteps:=2000000) (disch:=first|assumption|omega|simp only[nx];omega|(repeat apply zfp);assumption|simp only[smA];done|simp[oneCell,znp]) only[go_sem,e1,e2,e5,e6]
 apply callV_of (e:=rfl)
 . exact Bit_ok (endR s i 1) rm (by have:=(endR_in hs i).1;omega) hrm w3
 rintro _ _ ⟨rfl,rfl⟩
 cases hk:(endR s i 1).testBit rm with
 | false =>
  have hN:=selTo_no (P:=fun g=>(endR s g 1).testBit rm) (i:=i) hk
  simp -dsimp -implicitDefEqProofs (maxSteps:=2000000) (disch:=first|assumption|omega|simp only[nx];omega|(repeat apply zfp);assumption|simp only[smA];done|simp[oneCell,znp]) only[go_sem,e1,e2,e5,e6,hk]
  refine⟨_,by omega,i+1,by omega,rfl,rfl,by(simp only[go_sem,e1];try rfl),by(simp only[go_sem,e2];try rfl),by(simp only[go_sem,e6];try rfl),out,(by simp -dsimp -implicitDefEqProofs (maxSteps:=2000000) (disch:=first|assumption|omega|simp only[nx];omega|(repeat apply zfp);assumption|simp only[smA];done|simp[oneCell,znp]) only[go_sem,e5]),(by rw[hN];exact hO3),gW.trans g3,k3⟩
 | true =>
  have hN:=selTo_yes (P:=fun g=>(endR s g 1).testBit rm) (i:=i) hk
  obtain⟨u6,w6,happ,hA6,hk6,hf6,hn6⟩:=hO3.app g3.2 k3.next (by omega) i
  simp -dsimp -implicitDefEqProofs (maxSteps:=2000000) (disch:=first|assumption|omega|simp only[nx];omega|(repeat apply zfp);assumption|simp only[smA];done|simp[oneCell,znp]) only[go_sem,e1,e2,e5,e6,hk,happ]
  refine⟨_,by omega,i+1,by omega,rfl,rfl,by(simp only[go_sem,e1];try rfl),by(simp only[go_sem,e2];try rfl),by(simp only[go_sem,e6];try rfl),u6,(by simp -dsimp -implicitDefEqProofs (maxSteps:=2000000) (disch:=first|assumption|omega|simp only[nx];omega|(repeat apply zfp);assumption|simp only[smA];done|simp[oneCell,znp]) only[go_sem]),(by rw[hN];exact hA6),⟨(gW.trans g3).1.trans (hk6.mono hn1),hf6⟩,k3.trans hk6⟩
theorem pairL_app {r:Nat->Nat->Prop} {A B:List Nat} (ha:A.Pairwise r) (hb:B.Pairwise r) (h:∀ x ∈ A,∀ y ∈ B,r x y):(A++B).Pairwise r:=List.pairwise_append.2 ⟨ha,hb,h⟩
theorem rowL_ord (L:List Nat) (n k:Nat):(rowL L n k).Pairwise ordR:=by
 unfold rowL
 have h:=(List.pairwise_lt_range (n:=k)).filter (fun x=>decide (popN x=n) && L.contains x)
 refine List.Pairwise.imp_of_mem (fun {a b} ha hb hab=>?_) h
 have h1:=(List.mem_filter.1 ha).2
 have h2:=(List.mem_filter.1 hb).2
 simp only[Bool.and_eq_true,decide_eq_true_eq]at h1 h2
 exact .inr ⟨by omega,hab⟩
theorem mem_rowL {L:List Nat} {n k x:Nat}:x ∈ rowL L n k↔x < k/\popN x=n/\x ∈ L:=by
 unfold rowL
 rw[List.mem_filter,List.mem_range]
 simp[List.contains_iff_mem]
theorem preL_ord (L:List Nat):∀ n k,(preL L n k).Pairwise ordR/\∀ x ∈ preL L n k,popN x≤n
 | 0,k=>⟨rowL_ord L 0 k,fun x hx=>by have:=(mem_rowL.1 hx).2.1;omega⟩
 | n + 1,k=>by
  obtain⟨h1,h2⟩:=preL_ord L n 64
  have e:preL L (n+1) k=preL L n 64++rowL L (n+1) k:=by
   have h:=preL_row L n
   unfold preL at h ⊢
   rw[h,List.append_assoc]
   rfl
  rw[e]
  refine⟨pairL_app h1 (rowL_ord L (n+1) k) fun x hx y hy=>.inl ?_,fun x hx=>?_⟩
  . have:=h2 x hx
    have:=(mem_rowL.1 hy).2.1
    omega
  . rcases List.mem_append.1 hx with q|q
    . have:=h2 x q;omega
    . have:=(mem_rowL.1 q).2.1;omega
theorem popN_le (x:Nat):popN x≤6:=by
 have:=List.countP_le_length (p:=fun k=>x.testBit k) (l:=List.range 6)
 rw[List.length_range]at this;exact this
theorem mem_ordL {L:List Nat} (hL:∀ x ∈ L,x < 64) {x:Nat}:x ∈ ordL L↔x ∈ L:=by
 constructor
 . intro h
   exact (mem_pre h (by omega)).2
 . intro h
   unfold ordL preL
   refine List.mem_append_left _ (List.mem_flatMap.2 ⟨popN x,List.mem_range.2 (by have:=popN_le x;omega),mem_rowL.2 ⟨hL x h,rfl,h⟩⟩)
theorem ord_unique {r:Nat->Nat->Prop} (hirr:∀ x,¬ r x x) (hasy:∀ x y,r x y->¬ r y x):∀ {A B:List Nat},A.Pairwise r->B.Pairwise r->(∀ x,x ∈ A↔x ∈ B)->A=B
 | [],[],_,_,_=>rfl
 | [],y :: B,_,_,h=>by have:=(h y).2 List.mem_cons_self;cases this
 | x :: A,[],_,_,h=>by have:=(h x).1 List.mem_cons_self;cases this
 | x :: A,y :: B,ha,hb,h=>by
  rw[List.pairwise_cons]at ha hb
  have hxy:x=y:=by
   rcases List.mem_cons.1 ((h x).1 List.mem_cons_self)with q|q
   . exact q
   . rcases List.mem_cons.1 ((h y).2 List.mem_cons_self)with p|p
     . exact p.symm
     . exact absurd (ha.1 y p) (hasy y x (hb.1 x q))
  subst hxy
  congr 1
  refine ord_unique hirr hasy ha.2 hb.2 fun z=>?_
  constructor
  . intro hz
    rcases List.mem_cons.1 ((h z).1 (List.mem_cons_of_mem _ hz))with q|q
    . subst q;exact absurd (ha.1 z hz) (hirr z)
    . exact q
  . intro hz
    rcases List.mem_cons.1 ((h z).2 (List.mem_cons_of_mem _ hz))with q|q
    . subst q;exact absurd (hb.1 z hz) (hirr z)
    . exact q
theorem sort_ord {L:List Nat} (hL:∀ x ∈ L,x < 64) (hn:L.Nodup):sortN L=ordL L:=by
 refine ord_unique (r:=ordR) (fun x h=>by unfold ordR at h;omega) (fun x y h k=>by unfold ordR at h k;omega) ?_ (preL_ord L 7 0).1 fun x=>?_
 . have h1:=sortN_le L
   have h2:(sortN L).Pairwise (· ≠ ·):=(List.mergeSort_perm L _).nodup_iff.2 hn
   refine (h1.and h2).imp fun {a b} q=>?_
   unfold ordR at q ⊢
   omega
 . rw[sortN_mem,mem_ordL hL]
theorem selTo_nodup (P:Nat->Bool) (n:Nat):(selTo P n).Nodup:=by
 unfold selTo
 show ((List.range n).filter P).Pairwise (· ≠ ·)
 exact List.Pairwise.filter P List.nodup_range
theorem least_ord (P:Nat->Bool) {m:Nat} (hm:m≤6):leastN P m=minL (ordL (selTo P (2 ^ m))):=by
 have hp:=pow6 hm
 unfold leastN
 rw[sort_ord (fun x hx=>by have:=selTo_lt hx;omega) (selTo_nodup _ _)]
theorem Tryz.ty44:(prg Tryz.prog).ty 44=some ⟨false,(.slice 62),1,24,.slice none 0 0⟩:=by kernel_rfl
attribute [go_sem] Tryz.ty44
theorem Tryz.ty47:(prg Tryz.prog).ty 47=some ⟨true,(.struct #[⟨ "Room",3,0,false, "", "",0⟩, ⟨ "Seal",3,1,false, "", "",8⟩, ⟨ "Suits",3,2,false, "", "",16⟩, ⟨ "By",3,3,false, "", "",24⟩, ⟨ "With",3,4,false, "", "",32⟩]),5,40,.agg #[.int .i64 0,.int .i64 0,.int .i64 0,.int .i64 0,.int .i64 0]⟩:=by kernel_rfl
attribute [go_sem] Tryz.ty47
theorem Tryz.ty62:(prg Tryz.prog).ty 62=some ⟨true,(.struct #[⟨ "Day",3,0,false, "", "",0⟩, ⟨ "Kind",3,1,false, "", "",8⟩, ⟨ "Bag",3,2,false, "", "",16⟩, ⟨ "To",3,3,false, "", "",24⟩, ⟨ "By",3,4,false, "", "",32⟩, ⟨ "With",3,5,false, "", "",40⟩, ⟨ "Seal",3,6,false, "", "",48⟩, ⟨ "Suits",3,7,false, "", "",56⟩]),8,64,.agg #[.int .i64 0,.int .i64 0,.int .i64 0,.int .i64 0,.int .i64 0,.int .i64 0,.int .i64 0,.int .i64 0]⟩:=by kernel_rfl
attribute [go_sem] Tryz.ty62
theorem Tryz.ty107:(prg Tryz.prog).ty 107=some ⟨true,(.array 32 47),160,1280,.agg #[.int .i64 0,.int .i64 0,.int .i64 0,.int .i64 0,.int .i64 0,.int .i64 0,.int .i64 0,.int .i64 0,.int .i64 0,.int .i64 0,.int .i64 0,.int .i64 0,.int .i64 0,.int .i64 0,.int .i64 0,.int .i64 0,.int .i64 0,.int .i64 0,.int .i64 0,.int .i64 0,.int .i64 0,.int .i64 0,.int .i64 0,.int .i64 0,.int .i64 0,.int .i64 0,.int .i64 0,.int .i64 0,.int .i64 0,.int .i64 0,.int .i64 0,.int .i64 0,.int .i64 0,.int .i64 0,.int .i64 0,.int .i64 0,.int .i64 0,.int .i64 0,.int .i64 0,.int .i64 0,.int .i64 0,.int .i64 0,.int .i64 0,.int .i64 0,.int .i64 0,.int .i64 0,.int .i64 0,.int .i64 0,.int .i64 0,.int .i64 0,.int .i64 0,.int .i64 0,.int .i64 0,.int .i64 0,.int .i64 0,.int .i64 0,.int .i64 0,.int .i64 0,.int .i64 0,.int .i64 0,.int .i64 0,.int .i64 0,.int .i64 0,.int .i64 0,.int .i64 0,.int .i64 0,.int .i64 0,.int .i64 0,.int .i64 0,.int .i64 0,.int .i64 0,.int .i64 0,.int .i64 0,.int .i64 0,.int .i64 0,.int .i64 0,.int .i64 0,.int .i64 0,.int .i64 0,.int .i64 0,.int .i64 0,.int .i64 0,.int .i64 0,.int .i64 0,.int .i64 0,.int .i64 0,.int .i64 0,.int .i64 0,.int .i64 0,.int .i64 0,.int .i64 0,.int .i64 0,.int .i64 0,.int .i64 0,.int .i64 0,.int .i64 0,.int .i64 0,.int .i64 0,.int .i64 0,.int .i64 0,.int .i64 0,.int .i64 0,.int .i64 0,.int .i64 0,.int .i64 0,.int .i64 0,.int .i64 0,.int .i64 0,.int .i64 0,.int .i64 0,.int .i64 0,.int .i64 0,.int .i64 0,.int .i64 0,.int .i64 0,.int .i64 0,.int .i64 0,.int .i64 0,.int .i64 0,.int .i64 0,.int .i64 0,.int .i64 0,.int .i64 0,.int .i64 0,.int .i64 0,.int .i64 0,.int .i64 0,.int .i64 0,.int .i64 0,.int .i64 0,.int .i64 0,.int .i64 0,.int .i64 0,.int .i64 0,.int .i64 0,.int .i64 0,.int .i64 0,.int .i64 0,.int .i64 0,.int .i64 0,.int .i64 0,.int .i64 0,.int .i64 0,.int .i64 0,.int .i64 0,.int .i64 0,.int .i64 0,.int .i64 0,.int .i64 0,.int .i64 0,.int .i64 0,.int .i64 0,.int .i64 0,.int .i64 0,.int .i64 0,.int .i64 0,.int .i64 0,.int .i64 0,.int .i64 0,.int .i64 0]⟩:=by kernel_rfl
attribute [go_sem] Tryz.ty107
theorem Tryz.ty108:(prg Tryz.prog).ty 108=some ⟨true,(.array 32 78),32,256,.agg #[.int .i64 0,.int .i64 0,.int .i64 0,.int .i64 0,.int .i64 0,.int .i64 0,.int .i64 0,.int .i64 0,.int .i64 0,.int .i64 0,.int .i64 0,.int .i64 0,.int .i64 0,.int .i64 0,.int .i64 0,.int .i64 0,.int .i64 0,.int .i64 0,.int .i64 0,.int .i64 0,.int .i64 0,.int .i64 0,.int .i64 0,.int .i64 0,.int .i64 0,.int .i64 0,.int .i64 0,.int .i64 0,.int .i64 0,.int .i64 0,.int .i64 0,.int .i64 0]⟩:=by kernel_rfl
attribute [go_sem] Tryz.ty108
theorem Tryz.ty109:(prg Tryz.prog).ty 109=some ⟨false,(.map 3 4),1,8,.map none⟩:=by kernel_rfl
attribute [go_sem] Tryz.ty109
theorem Tryz.ty111:(prg Tryz.prog).ty 111=some ⟨true,(.struct #[⟨ "Strong",26,0,true, "", "",0⟩, ⟨ "bags",107,3,false, "", "lombard/vault",72⟩, ⟨ "trails",108,163,false, "", "lombard/vault",1352⟩, ⟨ "seals",109,195,false, "", "lombard/vault",1608⟩]),196,1616,.agg #[.slice none 0 0,.slice none 0 0,.slice none 0 0,.int .i64 0,.int .i64 0,.int .i64 0,.int .i64 0,.int .i64 0,.int .i64 0,.int .i64 0,.int .i64 0,.int .i64 0,.int .i64 0,.int .i64 0,.int .i64 0,.int .i64 0,.int .i64 0,.int .i64 0,.int .i64 0,.int .i64 0,.int .i64 0,.int .i64 0,.int .i64 0,.int .i64 0,.int .i64 0,.int .i64 0,.int .i64 0,.int .i64 0,.int .i64 0,.int .i64 0,.int .i64 0,.int .i64 0,.int .i64 0,.int .i64 0,.int .i64 0,.int .i64 0,.int .i64 0,.int .i64 0,.int .i64 0,.int .i64 0,.int .i64 0,.int .i64 0,.int .i64 0,.int .i64 0,.int .i64 0,.int .i64 0,.int .i64 0,.int .i64 0,.int .i64 0,.int .i64 0,.int .i64 0,.int .i64 0,.int .i64 0,.int .i64 0,.int .i64 0,.int .i64 0,.int .i64 0,.int .i64 0,.int .i64 0,.int .i64 0,.int .i64 0,.int .i64 0,.int .i64 0,.int .i64 0,.int .i64 0,.int .i64 0,.int .i64 0,.int .i64 0,.int .i64 0,.int .i64 0,.int .i64 0,.int .i64 0,.int .i64 0,.int .i64 0,.int .i64 0,.int .i64 0,.int .i64 0,.int .i64 0,.int .i64 0,.int .i64 0,.int .i64 0,.int .i64 0,.int .i64 0,.int .i64 0,.int .i64 0,.int .i64 0,.int .i64 0,.int .i64 0,.int .i64 0,.int .i64 0,.int .i64 0,.int .i64 0,.int .i64 0,.int .i64 0,.int .i64 0,.int .i64 0,.int .i64 0,.int .i64 0,.int .i64 0,.int .i64 0,.int .i64 0,.int .i64 0,.int .i64 0,.int .i64 0,.int .i64 0,.int .i64 0,.int .i64 0,.int .i64 0,.int .i64 0,.int .i64 0,.int .i64 0,.int .i64 0,.int .i64 0,.int .i64 0,.int .i64 0,.int .i64 0,.int .i64 0,.int .i64 0,.int .i64 0,.int .i64 0,.int .i64 0,.int .i64 0,.int .i64 0,.int .i64 0,.int .i64 0,.int .i64 0,.int .i64 0,.int .i64 0,.int .i64 0,.int .i64 0,.int .i64 0,.int .i64 0,.int .i64 0,.int .i64 0,.int .i64 0,.int .i64 0,.int .i64 0,.int .i64 0,.int .i64 0,.int .i64 0,.int .i64 0,.int .i64 0,.int .i64 0,.int .i64 0,.int .i64 0,.int .i64 0,.int .i64 0,.int .i64 0,.int .i64 0,.int .i64 0,.int .i64 0,.int .i64 0,.int .i64 0,.int .i64 0,.int .i64 0,.int .i64 0,.int .i64 0,.int .i64 0,.int .i64 0,.int .i64 0,.int .i64 0,.int .i64 0,.int .i64 0,.int .i64 0,.int .i64 0,.int .i64 0,.int .i64 0,.int .i64 0,.int .i64 0,.int .i64 0,.int .i64 0,.int .i64 0,.int .i64 0,.int .i64 0,.int .i64 0,.int .i64 0,.int .i64 0,.int .i64 0,.int .i64 0,.int .i64 0,.int .i64 0,.int .i64 0,.int .i64 0,.int .i64 0,.int .i64 0,.int .i64 0,.int .i64 0,.int .i64 0,.int .i64 0,.int .i64 0,.int .i64 0,.int .i64 0,.int .i64 0,.int .i64 0,.int .i64 0,.map none]⟩:=by kernel_rfl
attribute [go_sem] Tryz.ty111
theorem Tryz.ty153:(prg Tryz.prog).ty 153=some ⟨false,(.func #[104,62] #[] false),1,8,.nilFunc⟩:=by kernel_rfl
attribute [go_sem] Tryz.ty153
theorem Tryz.ty154:(prg Tryz.prog).ty 154=some ⟨false,(.map 3 153),1,8,.map none⟩:=by kernel_rfl
attribute [go_sem] Tryz.ty154
theorem Tryz.ty115:(prg Tryz.prog).ty 115=some ⟨false,(.slice 47),1,24,.slice none 0 0⟩:=by kernel_rfl
attribute [go_sem] Tryz.ty115
theorem Tryz.ty117:(prg Tryz.prog).ty 117=some ⟨true,(.struct #[⟨ "S",26,0,false, "", "",0⟩, ⟨ "Bags",115,3,false, "", "",72⟩, ⟨ "Ever",24,4,false, "", "",96⟩, ⟨ "Seals",24,5,false, "", "",120⟩, ⟨ "Since",24,6,false, "", "",144⟩]),7,168,.agg #[.slice none 0 0,.slice none 0 0,.slice none 0 0,.slice none 0 0,.slice none 0 0,.slice none 0 0,.slice none 0 0]⟩:=by kernel_rfl
attribute [go_sem] Tryz.ty117
theorem Tryz.ty171:(prg Tryz.prog).ty 171=some ⟨true,(.struct #[⟨ "to",4,0,false, "", "lombard/vault",0⟩, ⟨ "seal",4,1,false, "", "lombard/vault",1⟩, ⟨ "suits",4,2,false, "", "lombard/vault",2⟩]),3,3,.agg #[.bool false,.bool false,.bool false]⟩:=by kernel_rfl
attribute [go_sem] Tryz.ty171
theorem Tryz.ia44 (t:Tmps) (w:AW) (x y:Operand):fast (prg Tryz.prog) t w (.indexAddr 44 x y)=indexV 8 (ev t x) (ev t y):=fast_indexAddr Tryz.ty44 Tryz.ty62
attribute [go_sem] Tryz.ia44
theorem Tryz.ln44 (t:Tmps) (w:AW) (x:Operand):fast (prg Tryz.prog) t w (.call ⟨.builtin .len,⟨[x]⟩,⟨[44]⟩⟩)=lenV (ev t x):=fast_len Tryz.ty44
attribute [go_sem] Tryz.ln44
theorem Tryz.bd47 (t:Tmps) (w:AW) (l:List (Nat × Operand)):fast (prg Tryz.prog) t w (.build 47 ⟨l⟩)=bldQ [(0,1),(1,1),(2,1),(3,1),(4,1)] [.int .i64 0,.int .i64 0,.int .i64 0,.int .i64 0,.int .i64 0] (l.map fun p=>(p.1,ev t p.2)):=fast_build (zs:=[.int .i64 0,.int .i64 0,.int .i64 0,.int .i64 0,.int .i64 0]) Tryz.ty47 (by kernel_rfl)
attribute [go_sem] Tryz.bd47
theorem Tryz.fa47x0 (t:Tmps) (w:AW) (x:Operand):fast (prg Tryz.prog) t w (.fieldAddr 47 x 0)=fieldOff (ev t x) 0:=fast_fieldAddr (fd := ⟨ "Room",3,0,false, "", "",0⟩) Tryz.ty47 rfl Tryz.ty3 rfl
attribute [go_sem] Tryz.fa47x0
theorem Tryz.fa47x1 (t:Tmps) (w:AW) (x:Operand):fast (prg Tryz.prog) t w (.fieldAddr 47 x 1)=fieldOff (ev t x) 1:=fast_fieldAddr (fd := ⟨ "Seal",3,1,false, "", "",8⟩) Tryz.ty47 rfl Tryz.ty3 rfl
attribute [go_sem] Tryz.fa47x1
theorem Tryz.fa47x2 (t:Tmps) (w:AW) (x:Operand):fast (prg Tryz.prog) t w (.fieldAddr 47 x 2)=fieldOff (ev t x) 2:=fast_fieldAddr (fd := ⟨ "Suits",3,2,false, "", "",16⟩) Tryz.ty47 rfl Tryz.ty3 rfl
attribute [go_sem] Tryz.fa47x2
theorem Tryz.fa47x3 (t:Tmps) (w:AW) (x:Operand):fast (prg Tryz.prog) t w (.fieldAddr 47 x 3)=fieldOff (ev t x) 3:=fast_fieldAddr (fd := ⟨ "By",3,3,false, "", "",24⟩) Tryz.ty47 rfl Tryz.ty3 rfl
attribute [go_sem] Tryz.fa47x3
theorem Tryz.fa47x4 (t:Tmps) (w:AW) (x:Operand):fast (prg Tryz.prog) t w (.fieldAddr 47 x 4)=fieldOff (ev t x) 4:=fast_fieldAddr (fd := ⟨ "With",3,4,false, "", "",32⟩) Tryz.ty47 rfl Tryz.ty3 rfl
attribute [go_sem] Tryz.fa47x4
theorem Tryz.fa62x0 (t:Tmps) (w:AW) (x:Operand):fast (prg Tryz.prog) t w (.fieldAddr 62 x 0)=fieldOff (ev t x) 0:=fast_fieldAddr (fd := ⟨ "Day",3,0,false, "", "",0⟩) Tryz.ty62 rfl Tryz.ty3 rfl
attribute [go_sem] Tryz.fa62x0
theorem Tryz.fa62x1 (t:Tmps) (w:AW) (x:Operand):fast (prg Tryz.prog) t w (.fieldAddr 62 x 1)=fieldOff (ev t x) 1:=fast_fieldAddr (fd := ⟨ "Kind",3,1,false, "", "",8⟩) Tryz.ty62 rfl Tryz.ty3 rfl
attribute [go_sem] Tryz.fa62x1
theorem Tryz.fa62x2 (t:Tmps) (w:AW) (x:Operand):fast (prg Tryz.prog) t w (.fieldAddr 62 x 2)=fieldOff (ev t x) 2:=fast_fieldAddr (fd := ⟨ "Bag",3,2,false, "", "",16⟩) Tryz.ty62 rfl Tryz.ty3 rfl
attribute [go_sem] Tryz.fa62x2
theorem Tryz.fa62x3 (t:Tmps) (w:AW) (x:Operand):fast (prg Tryz.prog) t w (.fieldAddr 62 x 3)=fieldOff (ev t x) 3:=fast_fieldAddr (fd := ⟨ "To",3,3,false, "", "",24⟩) Tryz.ty62 rfl Tryz.ty3 rfl
attribute [go_sem] Tryz.fa62x3
theorem Tryz.fa62x4 (t:Tmps) (w:AW) (x:Operand):fast (prg Tryz.prog) t w (.fieldAddr 62 x 4)=fieldOff (ev t x) 4:=fast_fieldAddr (fd := ⟨ "By",3,4,false, "", "",32⟩) Tryz.ty62 rfl Tryz.ty3 rfl
attribute [go_sem] Tryz.fa62x4
theorem Tryz.fa62x5 (t:Tmps) (w:AW) (x:Operand):fast (prg Tryz.prog) t w (.fieldAddr 62 x 5)=fieldOff (ev t x) 5:=fast_fieldAddr (fd := ⟨ "With",3,5,false, "", "",40⟩) Tryz.ty62 rfl Tryz.ty3 rfl
attribute [go_sem] Tryz.fa62x5
theorem Tryz.fa62x6 (t:Tmps) (w:AW) (x:Operand):fast (prg Tryz.prog) t w (.fieldAddr 62 x 6)=fieldOff (ev t x) 6:=fast_fieldAddr (fd := ⟨ "Seal",3,6,false, "", "",48⟩) Tryz.ty62 rfl Tryz.ty3 rfl
attribute [go_sem] Tryz.fa62x6
theorem Tryz.fa62x7 (t:Tmps) (w:AW) (x:Operand):fast (prg Tryz.prog) t w (.fieldAddr 62 x 7)=fieldOff (ev t x) 7:=fast_fieldAddr (fd := ⟨ "Suits",3,7,false, "", "",56⟩) Tryz.ty62 rfl Tryz.ty3 rfl
attribute [go_sem] Tryz.fa62x7
theorem Tryz.bd111 (t:Tmps) (w:AW) (l:List (Nat × Operand)):fast (prg Tryz.prog) t w (.build 111 ⟨l⟩)=bldQ [(0,3),(3,160),(163,32),(195,1)] [.slice none 0 0,.slice none 0 0,.slice none 0 0,.int .i64 0,.int .i64 0,.int .i64 0,.int .i64 0,.int .i64 0,.int .i64 0,.int .i64 0,.int .i64 0,.int .i64 0,.int .i64 0,.int .i64 0,.int .i64 0,.int .i64 0,.int .i64 0,.int .i64 0,.int .i64 0,.int .i64 0,.int .i64 0,.int .i64 0,.int .i64 0,.int .i64 0,.int .i64 0,.int .i64 0,.int .i64 0,.int .i64 0,.int .i64 0,.int .i64 0,.int .i64 0,.int .i64 0,.int .i64 0,.int .i64 0,.int .i64 0,.int .i64 0,.int .i64 0,.int .i64 0,.int .i64 0,.int .i64 0,.int .i64 0,.int .i64 0,.int .i64 0,.int .i64 0,.int .i64 0,.int .i64 0,.int .i64 0,.int .i64 0,.int .i64 0,.int .i64 0,.int .i64 0,.int .i64 0,.int .i64 0,.int .i64 0,.int .i64 0,.int .i64 0,.int .i64 0,.int .i64 0,.int .i64 0,.int .i64 0,.int .i64 0,.int .i64 0,.int .i64 0,.int .i64 0,.int .i64 0,.int .i64 0,.int .i64 0,.int .i64 0,.int .i64 0,.int .i64 0,.int .i64 0,.int .i64 0,.int .i64 0,.int .i64 0,.int .i64 0,.int .i64 0,.int .i64 0,.int .i64 0,.int .i64 0,.int .i64 0,.int .i64 0,.int .i64 0,.int .i64 0,.int .i64 0,.int .i64 0,.int .i64 0,.int .i64 0,.int .i64 0,.int .i64 0,.int .i64 0,.int .i64 0,.int .i64 0,.int .i64 0,.int .i64 0,.int .i64 0,.int .i64 0,.int .i64 0,.int .i64 0,.int .i64 0,.int .i64 0,.int .i64 0,.int .i64 0,.int .i64 0,.int .i64 0,.int .i64 0,.int .i64 0,.int .i64 0,.int .i64 0,.int .i64 0,.int .i64 0,.int .i64 0,.int .i64 0,.int .i64 0,.int .i64 0,.int .i64 0,.int .i64 0,.int .i64 0,.int .i64 0,.int .i64 0,.int .i64 0,.int .i64 0,.int .i64 0,.int .i64 0,.int .i64 0,.int .i64 0,.int .i64 0,.int .i64 0,.int .i64 0,.int .i64 0,.int .i64 0,.int .i64 0,.int .i64 0,.int .i64 0,.int .i64 0,.int .i64 0,.int .i64 0,.int .i64 0,.int .i64 0,.int .i64 0,.int .i64 0,.int .i64 0,.int .i64 0,.int .i64 0,.int .i64 0,.int .i64 0,.int .i64 0,.int .i64 0,.int .i64 0,.int .i64 0,.int .i64 0,.int .i64 0,.int .i64 0,.int .i64 0,.int .i64 0,.int .i64 0,.int .i64 0,.int .i64 0,.int .i64 0,.int .i64 0,.int .i64 0,.int .i64 0,.int .i64 0,.int .i64 0,.int .i64 0,.int .i64 0,.int .i64 0,.int .i64 0,.int .i64 0,.int .i64 0,.int .i64 0,.int .i64 0,.int .i64 0,.int .i64 0,.int .i64 0,.int .i64 0,.int .i64 0,.int .i64 0,.int .i64 0,.int .i64 0,.int .i64 0,.int .i64 0,.int .i64 0,.int .i64 0,.int .i64 0,.int .i64 0,.int .i64 0,.int .i64 0,.int .i64 0,.int .i64 0,.int .i64 0,.int .i64 0,.int .i64 0,.int .i64 0,.int .i64 0,.int .i64 0,.map none] (l.map fun p=>(p.1,ev t p.2)):=fast_build (zs:=[.slice none 0 0,.slice none 0 0,.slice none 0 0,.int .i64 0,.int .i64 0,.int .i64 0,.int .i64 0,.int .i64 0,.int .i64 0,.int .i64 0,.int .i64 0,.int .i64 0,.int .i64 0,.int .i64 0,.int .i64 0,.int .i64 0,.int .i64 0,.int .i64 0,.int .i64 0,.int .i64 0,.int .i64 0,.int .i64 0,.int .i64 0,.int .i64 0,.int .i64 0,.int .i64 0,.int .i64 0,.int .i64 0,.int .i64 0,.int .i64 0,.int .i64 0,.int .i64 0,.int .i64 0,.int .i64 0,.int .i64 0,.int .i64 0,.int .i64 0,.int .i64 0,.int .i64 0,.int .i64 0,.int .i64 0,.int .i64 0,.int .i64 0,.int .i64 0,.int .i64 0,.int .i64 0,.int .i64 0,.int .i64 0,.int .i64 0,.int .i64 0,.int .i64 0,.int .i64 0,.int .i64 0,.int .i64 0,.int .i64 0,.int .i64 0,.int .i64 0,.int .i64 0,.int .i64 0,.int .i64 0,.int .i64 0,.int .i64 0,.int .i64 0,.int .i64 0,.int .i64 0,.int .i64 0,.int .i64 0,.int .i64 0,.int .i64 0,.int .i64 0,.int .i64 0,.int .i64 0,.int .i64 0,.int .i64 0,.int .i64 0,.int .i64 0,.int .i64 0,.int .i64 0,.int .i64 0,.int .i64 0,.int .i64 0,.int .i64 0,.int .i64 0,.int .i64 0,.int .i64 0,.int .i64 0,.int .i64 0,.int .i64 0,.int .i64 0,.int .i64 0,.int .i64 0,.int .i64 0,.int .i64 0,.int .i64 0,.int .i64 0,.int .i64 0,.int .i64 0,.int .i64 0,.int .i64 0,.int .i64 0,.int .i64 0,.int .i64 0,.int .i64 0,.int .i64 0,.int .i64 0,.int .i64 0,.int .i64 0,.int .i64 0,.int .i64 0,.int .i64 0,.int .i64 0,.int .i64 0,.int .i64 0,.int .i64 0,.int .i64 0,.int .i64 0,.int .i64 0,.int .i64 0,.int .i64 0,.int .i64 0,.int .i64 0,.int .i64 0,.int .i64 0,.int .i64 0,.int .i64 0,.int .i64 0,.int .i64 0,.int .i64 0,.int .i64 0,.int .i64 0,.int .i64 0,.int .i64 0,.int .i64 0,.int .i64 0,.int .i64 0,.int .i64 0,.int .i64 0,.int .i64 0,.int .i64 0,.int .i64 0,.int .i64 0,.int .i64 0,.int .i64 0,.int .i64 0,.int .i64 0,.int .i64 0,.int .i64 0,.int .i64 0,.int .i64 0,.int .i64 0,.int .i64 0,.int .i64 0,.int .i64 0,.int .i64 0,.int .i64 0,.int .i64 0,.int .i64 0,.int .i64 0,.int .i64 0,.int .i64 0,.int .i64 0,.int .i64 0,.int .i64 0,.int .i64 0,.int .i64 0,.int .i64 0,.int .i64 0,.int .i64 0,.int .i64 0,.int .i64 0,.int .i64 0,.int .i64 0,.int .i64 0,.int .i64 0,.int .i64 0,.int .i64 0,.int .i64 0,.int .i64 0,.int .i64 0,.int .i64 0,.int .i64 0,.int .i64 0,.int .i64 0,.int .i64 0,.int .i64 0,.int .i64 0,.int .i64 0,.int .i64 0,.int .i64 0,.int .i64 0,.int .i64 0,.int .i64 0,.int .i64 0,.int .i64 0,.int .i64 0,.map none]) Tryz.ty111 (by kernel_rfl)
attribute [go_sem] Tryz.bd111
theorem Tryz.fa111x0 (t:Tmps) (w:AW) (x:Operand):fast (prg Tryz.prog) t w (.fieldAddr 111 x 0)=fieldOff (ev t x) 0:=fast_fieldAddr (fd := ⟨ "Strong",26,0,true, "", "",0⟩) Tryz.ty111 rfl Tryz.ty26 rfl
attribute [go_sem] Tryz.fa111x0
theorem Tryz.fa111x1 (t:Tmps) (w:AW) (x:Operand):fast (prg Tryz.prog) t w (.fieldAddr 111 x 1)=fieldOff (ev t x) 3:=fast_fieldAddr (fd := ⟨ "bags",107,3,false, "", "lombard/vault",72⟩) Tryz.ty111 rfl Tryz.ty107 rfl
attribute [go_sem] Tryz.fa111x1
theorem Tryz.fa111x2 (t:Tmps) (w:AW) (x:Operand):fast (prg Tryz.prog) t w (.fieldAddr 111 x 2)=fieldOff (ev t x) 163:=fast_fieldAddr (fd := ⟨ "trails",108,163,false, "", "lombard/vault",1352⟩) Tryz.ty111 rfl Tryz.ty108 rfl
attribute [go_sem] Tryz.fa111x2
theorem Tryz.fa111x3 (t:Tmps) (w:AW) (x:Operand):fast (prg Tryz.prog) t w (.fieldAddr 111 x 3)=fieldOff (ev t x) 195:=fast_fieldAddr (fd := ⟨ "seals",109,195,false, "", "lombard/vault",1608⟩) Tryz.ty111 rfl Tryz.ty109 rfl
attribute [go_sem] Tryz.fa111x3
theorem Tryz.ia115 (t:Tmps) (w:AW) (x y:Operand):fast (prg Tryz.prog) t w (.indexAddr 115 x y)=indexV 5 (ev t x) (ev t y):=fast_indexAddr Tryz.ty115 Tryz.ty47
attribute [go_sem] Tryz.ia115
theorem Tryz.ln115 (t:Tmps) (w:AW) (x:Operand):fast (prg Tryz.prog) t w (.call ⟨.builtin .len,⟨[x]⟩,⟨[115]⟩⟩)=lenV (ev t x):=fast_len Tryz.ty115
attribute [go_sem] Tryz.ln115
theorem Tryz.bd117 (t:Tmps) (w:AW) (l:List (Nat × Operand)):fast (prg Tryz.prog) t w (.build 117 ⟨l⟩)=bldQ [(0,3),(3,1),(4,1),(5,1),(6,1)] [.slice none 0 0,.slice none 0 0,.slice none 0 0,.slice none 0 0,.slice none 0 0,.slice none 0 0,.slice none 0 0] (l.map fun p=>(p.1,ev t p.2)):=fast_build (zs:=[.slice none 0 0,.slice none 0 0,.slice none 0 0,.slice none 0 0,.slice none 0 0,.slice none 0 0,.slice none 0 0]) Tryz.ty117 (by kernel_rfl)
attribute [go_sem] Tryz.bd117
theorem Tryz.fa117x0 (t:Tmps) (w:AW) (x:Operand):fast (prg Tryz.prog) t w (.fieldAddr 117 x 0)=fieldOff (ev t x) 0:=fast_fieldAddr (fd := ⟨ "S",26,0,false, "", "",0⟩) Tryz.ty117 rfl Tryz.ty26 rfl
attribute [go_sem] Tryz.fa117x0
theorem Tryz.fa117x1 (t:Tmps) (w:AW) (x:Operand):fast (prg Tryz.prog) t w (.fieldAddr 117 x 1)=fieldOff (ev t x) 3:=fast_fieldAddr (fd := ⟨ "Bags",115,3,false, "", "",72⟩) Tryz.ty117 rfl Tryz.ty115 rfl
attribute [go_sem] Tryz.fa117x1
theorem Tryz.fa117x2 (t:Tmps) (w:AW) (x:Operand):fast (prg Tryz.prog) t w (.fieldAddr 117 x 2)=fieldOff (ev t x) 4:=fast_fieldAddr (fd := ⟨ "Ever",24,4,false, "", "",96⟩) Tryz.ty117 rfl Tryz.ty24 rfl
attribute [go_sem] Tryz.fa117x2
theorem Tryz.fa117x3 (t:Tmps) (w:AW) (x:Operand):fast (prg Tryz.prog) t w (.fieldAddr 117 x 3)=fieldOff (ev t x) 5:=fast_fieldAddr (fd := ⟨ "Seals",24,5,false, "", "",120⟩) Tryz.ty117 rfl Tryz.ty24 rfl
attribute [go_sem] Tryz.fa117x3
theorem Tryz.fa117x4 (t:Tmps) (w:AW) (x:Operand):fast (prg Tryz.prog) t w (.fieldAddr 117 x 4)=fieldOff (ev t x) 6:=fast_fieldAddr (fd := ⟨ "Since",24,6,false, "", "",144⟩) Tryz.ty117 rfl Tryz.ty24 rfl
attribute [go_sem] Tryz.fa117x4
theorem Tryz.bd171 (t:Tmps) (w:AW) (l:List (Nat × Operand)):fast (prg Tryz.prog) t w (.build 171 ⟨l⟩)=bldQ [(0,1),(1,1),(2,1)] [.bool false,.bool false,.bool false] (l.map fun p=>(p.1,ev t p.2)):=fast_build (zs:=[.bool false,.bool false,.bool false]) Tryz.ty171 (by kernel_rfl)
attribute [go_sem] Tryz.bd171
theorem Tryz.fa171x0 (t:Tmps) (w:AW) (x:Operand):fast (prg Tryz.prog) t w (.fieldAddr 171 x 0)=fieldOff (ev t x) 0:=fast_fieldAddr (fd := ⟨ "to",4,0,false, "", "lombard/vault",0⟩) Tryz.ty171 rfl Tryz.ty4 rfl
attribute [go_sem] Tryz.fa171x0
theorem Tryz.fa171x1 (t:Tmps) (w:AW) (x:Operand):fast (prg Tryz.prog) t w (.fieldAddr 171 x 1)=fieldOff (ev t x) 1:=fast_fieldAddr (fd := ⟨ "seal",4,1,false, "", "lombard/vault",1⟩) Tryz.ty171 rfl Tryz.ty4 rfl
attribute [go_sem] Tryz.fa171x1
theorem Tryz.fa171x2 (t:Tmps) (w:AW) (x:Operand):fast (prg Tryz.prog) t w (.fieldAddr 171 x 2)=fieldOff (ev t x) 2:=fast_fieldAddr (fd := ⟨ "suits",4,2,false, "", "lombard/vault",2⟩) Tryz.ty171 rfl Tryz.ty4 rfl
attribute [go_sem] Tryz.fa171x2
end Go.Proofs

namespace Go.Sim
open Go Go.RowKit
section
variable {P:Program} {told:ToldF}
theorem codeXZ_codeT {env:Env} (ids:List Nat):∀ (c:Code) {t:Tmps} {ds:List DI} {w:AW} {Q:Post} {x:Tok (sOfX ids c,t,ds,w,Q)},CodeX P told env (sOfX ids c) t ds w Q x->CodeT P told env c t ds w Q:=by
 intro c
 induction c with
 | skip=>intro t ds w Q x h;exact codeX_codeT _ h
 | label=>intro t ds w Q x h;exact codeX_codeT _ h
 | region id ops draw =>
  intro t ds w Q x h
  have key:∀ s,sOfX ids (.region id ops draw)=s->∀ y:Tok (s,t,ds,w,Q),CodeX P told env s t ds w Q y->CodeX P told env s t ds w Q .mk:=fun s _ y q=>by cases y;exact q
  have h2:=key _ rfl x h
  clear key h
  revert h2
  simp only[sOfX]
  cases ids.contains id with
  | true=>exact fun h=>h
  | false=>exact fun h=>codeX_codeT _ h
 | seq a b iha ihb =>
  intro t ds w Q x h
  refine codeT_seq ((iha h).mono ?_)
  intro e t' ds' w' q
  cases e with
  | normal=>exact ihb q
  | exit id=>exact q
  | ret=>exact q
  | pan v=>exact q
 | cond c a b iha ihb =>
  intro t ds w Q x h
  obtain⟨z,hx,h1,h2⟩:=h
  refine codeT_cond hx ?_
  cases z with
  | true=>exact iha (h1 rfl)
  | false=>exact ihb (h2 rfl)
 | block id b ih =>
  intro t ds w Q x h
  refine codeT_block ((ih h).mono ?_)
  intro e t' ds' w' q
  cases e with
  | normal=>exact q
  | ret=>exact q
  | pan v=>exact q
  | exit i =>
   simp only
   simp only[blockQ]at q
   cases hb:Nat.beq i id with
   | true=>rw[hb]at q;exact q
   | false=>rw[hb]at q;exact q
 | loop b ih =>
  intro t ds w Q x h
  obtain⟨I,k,h1,h2⟩:=h
  refine codeT_loop I (fun k t ds w hI=>(ih (h2 k t ds w hI)).mono ?_) k t ds w h1
  intro e t' ds' w' q
  cases e with
  | normal=>exact q
  | exit id=>exact q
  | ret=>exact q
  | pan v=>exact q
 | scope b ih=>intro t ds w Q x h;exact codeT_scope (ih h)
 | exit id=>intro t ds w Q x h;exact codeX_codeT _ h
 | ret=>intro t ds w Q x h;exact codeX_codeT _ h
 | goto l=>intro t ds w Q x h;exact h
 | refuse y=>intro t ds w Q x h;exact h
 | rangeFunc f ps a b iha ihb=>intro t ds w Q x h;exact h
theorem callX_codeZ {f:FuncId} {captured args:Array Value} {w:AW} {Q R:Value->AW->Prop} {fn:Func} {s:SC} (ids:List Nat) (htold:told f (args++captured) w=none) (hf:P.funcs[f]? = some fn) (hlt:Nat.blt f 16777215=true) (hs:fn.body.map (sOfX ids)=some s)
    (hn:Nat.ble (args++captured).size fn.ntmps=true)
    (h:CodeX P told { fn:=f,round:=none } s (fillFrom 0 (args++captured).toList .leaf) [] w (fun e t ds w'=>LeftX P told fn.results.toList e t ds w' Q R) .mk):CallX P told (.fn (.func f) captured) args w Q R:=by
 obtain⟨c,hc,rfl⟩:=Option.map_eq_some_iff.mp hs
 exact callX_enter htold hf hlt hc hn (codeXZ_codeT ids c h)
end
end Go.Sim

namespace Go.Proofs
open Go Go.RowKit Go.Sim
set_option maxRecDepth 100000
structure BagN where
 room:Nat
 sl:Nat
 suits:Nat
 ca:Nat
 cb:Nat
structure CarN where
 day:Nat
 kind:Nat
 bag:Nat
 to:Nat
 ca:Nat
 cb:Nat
 sl:Nat
 suits:Nat
def bagC (b:BagN):List Value:=[.int .i64 (b.room:Int),.int .i64 (b.sl:Int),.int .i64 (b.suits:Int),.int .i64 (b.ca:Int),.int .i64 (b.cb:Int)]
def carC (c:CarN):List Value:=[.int .i64 (c.day:Int),.int .i64 (c.kind:Int),.int .i64 (c.bag:Int),.int .i64 (c.to:Int),.int .i64 (c.ca:Int),.int .i64 (c.cb:Int),.int .i64 (c.sl:Int),.int .i64 (c.suits:Int)]
theorem bagC_len (b:BagN):(bagC b).length=5:=rfl
theorem bagC_one (b:BagN):∀ v ∈ bagC b,oneCell v=true:=by intro v hv;simp[bagC]at hv;rcases hv with rfl|rfl|rfl|rfl|rfl <;> rfl
structure LogN where
 bags:List BagN
 trails:List Nat
 seals:List Nat
structure LogOk (x:LogN):Prop where
 bags:x.bags.length=32
 trails:x.trails.length=32
def logC (pR pG pS:Option Addr) (cR cG cS:Nat) (s:StrN) (r:Nat) (x:LogN):List Value:=strC pR pG pS cR cG cS s++(x.bags.flatMap bagC++((natsL x.trails).flatMap icells++[.map (some r)]))
theorem flat_len {α:Type} {enc:α->List Value} {z:Nat} (hz:∀ x,(enc x).length=z):∀ L:List α,(L.flatMap enc).length=L.length * z
 | []=>by simp
 | a :: L=>by rw[List.flatMap_cons,List.length_append,hz,flat_len hz L,List.length_cons,Nat.succ_mul];omega
theorem bags_len {x:LogN} (h:LogOk x):(x.bags.flatMap bagC).length=160:=by rw[flat_len bagC_len,h.bags]
theorem trails_len {x:LogN} (h:LogOk x):((natsL x.trails).flatMap icells).length=32:=by rw[flat_len icells_len,natsL_len,h.trails]
section
variable {pR pG pS:Option Addr} {cR cG cS:Nat} {s:StrN} {r:Nat} {x:LogN}
theorem logC_len (h:LogOk x):(logC pR pG pS cR cG cS s r x).length=196:=by
 unfold logC
 rw[List.length_append,List.length_append,List.length_append,bags_len h,trails_len h];rfl
theorem log_bag {i:Nat} (f:Nat) (hf:f < 5) (hi:i < x.bags.length):(logC pR pG pS cR cG cS s r x)[3+i * 5+f]? = (bagC x.bags[i])[f]?:=by
 unfold logC
 have hl:(x.bags.flatMap bagC).length=x.bags.length * 5:=flat_len bagC_len _
 have hlt:i * 5+f < x.bags.length * 5:=by
  have:i * 5+5≤x.bags.length * 5:=by omega
  omega
 rw[List.getElem?_append_right (by show 3≤_;omega),show 3+i * 5+f - (strC pR pG pS cR cG cS s).length=i * 5+f from by show 3+i * 5+f - 3=_;omega,List.getElem?_append_left (by omega)]
 exact flatMap_get bagC_len x.bags i f _ (List.getElem?_eq_getElem hi) hf
theorem log_trail (h:LogOk x) {i:Nat} (hi:i < x.trails.length):(logC pR pG pS cR cG cS s r x)[163+i]? = some (.int .i64 (x.trails[i]:Int)):=by
 unfold logC
 have hb:=bags_len h
 have ht:=trails_len h
 have h32:=h.trails
 rw[List.getElem?_append_right (by show 3≤_;omega),show 163+i - (strC pR pG pS cR cG cS s).length=160+i from by show 163+i - 3=_;omega,List.getElem?_append_right (by omega),hb,show 160+i - 160=i by omega,List.getElem?_append_left (by omega),flat_icells,List.getElem?_map,List.getElem?_eq_getElem (by rw[natsL_len];exact hi)]
 simp[natsL]
theorem log_map (h:LogOk x):(logC pR pG pS cR cG cS s r x)[195]? = some (.map (some r)):=by
 unfold logC
 have hb:=bags_len h
 have ht:=trails_len h
 rw[List.getElem?_append_right (by show 3≤_;omega),show 195 - (strC pR pG pS cR cG cS s).length=192 from rfl,List.getElem?_append_right (by omega),hb,List.getElem?_append_right (by omega),ht]
 rfl
end
theorem loadPart {w:AW} {b n:Nat} {e:TypeId} {A B C:List Value} (h:Own w b e (A++(B++C))) (hn:B.length=n) (h1:∀ v ∈ B,oneCell v=true):loadV w true n (.pointer (some ⟨b,A.length,none⟩))=some (.agg B.toArray):=by
 subst hn
 rw[loadV_row,aCells_of B A.length fun i v hv=>?_]
 refine h.cell (o:=A.length+i) ?_ (h1 v (List.mem_of_getElem? hv))
 rw[List.getElem?_append_right (by omega),Nat.add_sub_cancel_left]
 have hi:i < B.length:=by
  rcases Nat.lt_or_ge i B.length with q|q
  . exact q
  . rw[List.getElem?_eq_none q]at hv;cases hv
 rw[List.getElem?_append_left hi];exact hv
theorem setsL_part (A B C l:List Value) (h:l.length=B.length):setsL (A++(B++C)) A.length l=A++(l++C):=by
 have:=setsL_shift A l (B++C) 0
 rw[Nat.add_zero]at this
 rw[this,setsL_zero l B C h]
theorem flat_set {α:Type} {enc:α->List Value} {z:Nat} (hz:∀ x,(enc x).length=z) (y:α) (f:Nat) (hf:f < z) (v:Value):∀ (L:List α) (i:Nat) (hi:i < L.length),enc y=(enc L[i]).set f v->(L.flatMap enc).set (i * z+f) v=(L.set i y).flatMap enc
 | [],i,h,_=>by simp at h
 | a :: L,0,_,h=>by
  simp only[Nat.zero_mul,Nat.zero_add,List.flatMap_cons,List.set_cons_zero]
  rw[List.set_append_left _ _ (by rw[hz];exact hf)]
  rw[show enc y=(enc a).set f v from h]
 | a :: L,i+1,hi,h=>by
  simp only[List.flatMap_cons,List.set_cons_succ]
  rw[List.set_append_right _ _ (by rw[hz,Nat.succ_mul];omega),hz,show (i+1) * z+f - z=i * z+f from by rw[Nat.succ_mul];omega]
  rw[flat_set hz y f hf v L i (by simpa using hi) h]
def BagN.put (b:BagN) (f:Nat) (v:Nat):BagN :=
 match f with
 | 0=>{ b with room:=v }
 | 1=>{ b with sl:=v }
 | 2=>{ b with suits:=v }
 | 3=>{ b with ca:=v }
 | _=>{ b with cb:=v }
theorem bagC_put (b:BagN) {f:Nat} (hf:f < 5) (v:Nat):bagC (b.put f v)=(bagC b).set f (.int .i64 (v:Int)):=by
 match f,hf with
 | 0,_=>rfl
 | 1,_=>rfl
 | 2,_=>rfl
 | 3,_=>rfl
 | 4,_=>rfl
def LogN.put (x:LogN) (i f:Nat) (v:Nat):LogN:={ x with bags:=x.bags.set i ((x.bags.getD i ⟨0,0,0,0,0⟩).put f v) }
def LogN.mark (x:LogN) (i:Nat) (v:Nat):LogN:={ x with trails:=x.trails.set i v }
theorem LogOk.put {x:LogN} (h:LogOk x) (i f:Nat) (v:Nat):LogOk (x.put i f v):=⟨by simp[LogN.put,h.bags],h.trails⟩
theorem LogOk.mark {x:LogN} (h:LogOk x) (i:Nat) (v:Nat):LogOk (x.mark i v):=⟨h.bags,by simp[LogN.mark,h.trails]⟩
section
variable {pR pG pS:Option Addr} {cR cG cS:Nat} {s:StrN} {r:Nat} {x:LogN}
theorem log_put {i f:Nat} (hi:i < x.bags.length) (hf:f < 5) (v:Nat):setL (logC pR pG pS cR cG cS s r x) (3+i * 5+f) (.int .i64 (v:Int))=logC pR pG pS cR cG cS s r (x.put i f v):=by
 have hl:(x.bags.flatMap bagC).length=x.bags.length * 5:=flat_len bagC_len _
 have hlt:i * 5+f < x.bags.length * 5:=by
  have:i * 5+5≤x.bags.length * 5:=by omega
  omega
 have hg:x.bags.getD i ⟨0,0,0,0,0⟩=x.bags[i]:=by simp[List.getD,hi]
 rw[setL_eq]
 unfold logC LogN.put
 rw[List.set_append_right _ _ (by show 3≤_;omega),show 3+i * 5+f - (strC pR pG pS cR cG cS s).length=i * 5+f from by show 3+i * 5+f - 3=_;omega,List.set_append_left _ _ (by omega)]
 congr 2
 rw[hg]
 exact flat_set bagC_len _ f hf _ x.bags i hi (bagC_put _ hf v)
theorem log_mark (h:LogOk x) {i:Nat} (hi:i < x.trails.length) (v:Nat):setL (logC pR pG pS cR cG cS s r x) (163+i) (.int .i64 (v:Int))=logC pR pG pS cR cG cS s r (x.mark i v):=by
 have hb:=bags_len h
 have ht:=trails_len h
 have h32:=h.trails
 rw[setL_eq]
 unfold logC LogN.mark
 rw[List.set_append_right _ _ (by show 3≤_;omega),show 163+i - (strC pR pG pS cR cG cS s).length=160+i from by show 163+i - 3=_;omega,List.set_append_right _ _ (by omega),hb,show 160+i - 160=i by omega,List.set_append_left _ _ (by omega)]
 congr 3
 have:=flat_set (enc:=icells) icells_len (v:Int) 0 (by omega) (.int .i64 (v:Int)) (natsL x.trails) i (by rw[natsL_len];exact hi) rfl
 rw[Nat.mul_one,Nat.add_zero]at this
 rw[this]
 unfold natsL
 rw[List.map_set]
theorem log_bags (h:LogOk x) {l:List BagN} (hl:l.length=32):setsL (logC pR pG pS cR cG cS s r x) 3 (l.flatMap bagC)=logC pR pG pS cR cG cS s r { x with bags:=l }:=by
 unfold logC
 exact setsL_part (strC pR pG pS cR cG cS s) (x.bags.flatMap bagC) _ (l.flatMap bagC) (by rw[bags_len h,flat_len bagC_len,hl])
end
structure MapI (w:AW) (r:Nat) (ks:List Int):Prop where
 blk:∃ es clock,w.blk r=some (.map es clock)/\es.toList.map (·.key)=ks.map (Value.int .i64)/\∀ e ∈ es.toList,e.val=.bool true
 lt:r < w.next
theorem MapI.other {S:Nat->Prop} {w w':AW} {r:Nat} {ks:List Int} (h:MapI w r ks) (k:MutS S w w') (hn:¬ S r):MapI w' r ks:=by
 obtain⟨⟨es,c,h1,h2⟩,h4⟩:=h
 exact⟨⟨es,c,by rw[k.blk r h4 hn];exact h1,h2⟩,by have:=k.next;omega⟩
theorem findNow_ints (k:Int):∀ (es:List MapEntry) (ks:List Int) (i:Nat),es.map (·.key)=ks.map (Value.int .i64)->(∀ e ∈ es,e.val=.bool true) ->
    (k ∈ ks->∃ j,Instr.findNow (.int .i64) (.int .i64 k) es i=some (some (j,.bool true)))/\(¬ k ∈ ks->Instr.findNow (.int .i64) (.int .i64 k) es i=some none)
 | [],[],i,_,_=>⟨fun h=>by simp at h,fun _=>rfl⟩
 | [],_ :: _,_,h,_=>by simp at h
 | _ :: _,[],_,h,_=>by simp at h
 | e :: es,x :: ks,i,h,hv=>by
  simp only[List.map_cons,List.cons.injEq]at h
  obtain⟨ih1,ih2⟩:=findNow_ints k es ks (i+1) h.2 (fun e he=>hv e (List.mem_cons_of_mem _ he))
  have hval:=hv e List.mem_cons_self
  have he:Instr.sameNow (.int .i64) (.int .i64 k) e.key=some (k == x):=by rw[h.1];rfl
  by_cases q:k=x
  . have hb:(k == x)=true:=by simp[q]
    rw[hb]at he
    refine⟨fun _=>⟨i,?_⟩,fun hn=>absurd (by rw[q];exact List.mem_cons_self) hn⟩
    simp only[Instr.findNow,he,hval]
  · have hb:(k == x)=false:=by simp[q]
    rw[hb]at he
    refine⟨fun hm=>?_,fun hn=>?_⟩
    . obtain⟨j,hj⟩:=ih1 (by rcases List.mem_cons.mp hm with a|a;exact absurd a q;exact a)
      exact⟨j,by simp only[Instr.findNow,he,hj]⟩
    . simp only[Instr.findNow,he]
      exact ih2 fun hm=>hn (List.mem_cons_of_mem _ hm)
theorem MapI.lookup {w:AW} {r:Nat} {ks:List Int} (h:MapI w r ks) (k:Int):lookupV w (.int .i64) (.bool false) (.map (some r)) (.int .i64 k) false=some (.bool (ks.contains k)):=by
 obtain⟨⟨es,c,h1,h2,h3⟩,h4⟩:=h
 obtain⟨f1,f2⟩:=findNow_ints k es.toList ks 0 h2 h3
 unfold lookupV
 by_cases q:k ∈ ks
 . obtain⟨j,hj⟩:=f1 q
   simp only[simpleKey,h1,hj]
   rw[List.contains_iff_mem.2 q]
 . have hq:ks.contains k=false:=by rw[Bool.eq_false_iff];exact fun z=>q (List.contains_iff_mem.1 z)
   simp only[simpleKey,h1,f2 q,hq]
theorem MapI.add {g:Prg} {ty kt e:TypeId} {a1 a2:Bool} {n1 b1 n2 b2:Nat} {z1 z2:Value} (ht:g.ty ty=some ⟨a1,.map kt e,n1,b1,z1⟩) (hk:g.ty kt=some ⟨a2,.int .i64,n2,b2,z2⟩) {w:AW} {r:Nat} {ks:List Int} (h:MapI w r ks) (k:Int) (hn:ks.contains k=false) :
    ∃ b,updateV g w ty (.map (some r)) (.int .i64 k) (.bool true)=some (w.put r b)/\MapI (w.put r b) r (ks++[k]):=by
 have hn':¬ k ∈ ks:=fun q=>by rw[List.contains_iff_mem.2 q]at hn;cases hn
 obtain⟨⟨es,c,h1,h2,h3⟩,h4⟩:=h
 obtain⟨f1,f2⟩:=findNow_ints k es.toList ks 0 h2 h3
 refine⟨.map (es.push { key:=.int .i64 k,val:=.bool true,born:=c }) (c+1),?_,⟨_,_,by rw[AW.blk_put _ _ _ _ (Trie.in_ _) (Trie.in_ _),if_pos rfl],?_,?_⟩,by rw[AW.next_put];exact h4⟩
 . unfold updateV
   simp only[ht,hk,h1,simpleKey,f2 hn']
 . simp[h2]
 . intro e he
   simp only[Array.toList_push,List.mem_append,List.mem_singleton]at he
   rcases he with q|q
   . exact h3 e q
   . rw[q]
theorem nats_has (L:List Nat) (k:Nat):(natsL L).contains (k:Int)=L.contains k:=by
 rw[Bool.eq_iff_iff,List.contains_iff_mem,List.contains_iff_mem]
 unfold natsL
 constructor
 . intro h
   obtain⟨y,hy,e⟩:=List.mem_map.1 h
   have:y=k:=by omega
   rw[<- this];exact hy
 . intro h
   exact List.mem_map.2 ⟨k,h,rfl⟩
structure LogAt (w:AW) (pR pG pS:Option Addr) (cR cG cS:Nat) (s:StrN) (b r:Nat) (x:LogN):Prop where
 own:Own w b 111 (logC pR pG pS cR cG cS s r x)
 map:MapI w r (natsL x.seals)
 ne:b ≠ r
 ok:LogOk x
theorem LogAt.other {w w':AW} {S:Nat->Prop} {pR pG pS:Option Addr} {cR cG cS:Nat} {s:StrN} {b r:Nat} {x:LogN} (h:LogAt w pR pG pS cR cG cS s b r x) (k:MutS S w w') (h1:¬ S b) (h2:¬ S r):LogAt w' pR pG pS cR cG cS s b r x :=
 ⟨k.own h.own h1,h.map.other k h2,h.ne,h.ok⟩
theorem LogAt.grown {w w':AW} {pR pG pS:Option Addr} {cR cG cS:Nat} {s:StrN} {b r:Nat} {x:LogN} (h:LogAt w pR pG pS cR cG cS s b r x) (k:Grown w w'):LogAt w' pR pG pS cR cG cS s b r x :=
 h.other (S:=fun _=>False) (.of k) (fun q=>q) fun q=>q
end Go.Proofs
