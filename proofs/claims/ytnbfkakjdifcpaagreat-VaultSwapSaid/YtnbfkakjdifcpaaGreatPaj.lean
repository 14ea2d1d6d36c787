/- This program: its code, contracts, numbers, part 10. -/
import Derived.Test.YtnbfkakjdifcpaaGreatPai
import Derived.Test.YtnbfkakjdifcpaaGreatPaa
import Derived.Test.YtnbfkakjdifcpaaGreatNa
import Derived.Test.YtnbfkakjdifcpaaGreatNc
import Derived.Test.YtnbfkakjdifcpaaGreatProg
import Derived.Shelf.SlSortCmp.NoneTotal
import Derived.Ground.SlsfProg
import Derived.Lib.RowBridge
import Derived.Lib.SortBridge
import Derived.WalkKit
import Derived.Test.YtnbfkakjdifcpaaGreatPad
import Derived.Test.YtnbfkakjdifcpaaGreatRows
import Derived.ProofKit
import Derived.SizedLaws
set_option linter.unusedVariables false
set_option linter.unusedSimpArgs false
namespace Go.Proofs
open Go Go.RowKit Go.Sim
set_option maxRecDepth 100000
theorem RowS.appA {B:Nat} {w:AW} {v:Value} {L:List Nat} (h:RowS 3 B w v L) (f:Fresh w) (hB:B≤w.next) (hl:L.length+1≤1048576) (x:Nat) :
    ∃ v' w',append (prg Tryz.prog) (w.push (.cells [.int .i64 (x:Int)] 3 w.next 0 0)) 24 24 v (.slice (some ⟨w.next,0,none⟩) 1 1)=some (v',w')∧RowS 3 B w' v' (L++[x])∧Keep B w w'∧Fresh w'∧w.next < w'.next∧Apnd w w':=by
  obtain ⟨u5,w5,happ,hA5,hk5,hf5,hn5,hap⟩:=append_one (e':=3) Tryz.ty24 Tryz.ty3 rfl (by omega) (by omega) h f hB (new:=[.int .i64 (x:Int)]) rfl (by intro y hy;simp at hy;subst hy;rfl) (by omega)
  exact ⟨u5,w5,happ,by unfold RowS;rw [natsL_app,List.length_append];exact hA5,hk5,hf5,hn5,hap⟩
theorem trail_room {s:StrN} {L:List CarI} (h:(runI s L).2.1=0) (bag:Nat) (hb:bag < 32):∀ i,i≤L.length→((logOf (L.take i)).bag bag).room ≠ 0→((logOf (L.take i)).trail bag).testBit ((logOf (L.take i)).bag bag).room=true:=by
  intro i
  induction i with
  | zero=>exact fun _ hr=>absurd (by
      show (x0.bag bag).room=0
      unfold LogN.bag
      show ((shelf0)[bag]?.getD _).room=0
      rw [show shelf0=List.replicate 32 _ from rfl,List.getElem?_replicate,if_pos hb];rfl) hr
  | succ i ih =>
    intro hi hr
    have hi':i < L.length:=by omega
    have hk:LogOk (logOf (L.take i)):=logOf_ok _ x0 x0_ok
    obtain ⟨hco,hk1,hk5⟩:=run_cars h i hi'
    rw [logOf_snoc hi'] at hr ⊢
    rw [bag_at _ hk _ hco.bag bag hb] at hr ⊢
    rw [trail_at _ hk _ hco.bag bag hb]
    by_cases q:bag=(L[i]).toN.bag
    · rw [if_pos q] at hr ⊢
      rw [if_pos q]
      unfold trailB
      by_cases q1:(L[i]).toN.kind=1
      · rw [if_pos q1,bagB_to (.inl q1)];exact bit_pow.2 rfl
      rw [if_neg q1]
      by_cases q2:(L[i]).toN.kind=2
      · rw [if_pos q2,bagB_to (.inr q2)];exact bit_or_pow _ _
      rw [if_neg q2]
      by_cases q5:(L[i]).toN.kind=5
      · exact absurd (bagB_out q5) hr
      rw [if_pos (by omega),bagB_stay (by omega)];exact bit_pow.2 rfl
    · rw [if_neg q] at hr ⊢
      rw [if_neg q]
      exact ih (by omega) hr
theorem sus_zero {s:StrN} {L:List CarI} {kb:Nat} (h:susE s L (kb:Int)=0):(runI s L).2.1=0∧kb < 32∧((logOf L).bag kb).room ≠ 0:=by
  unfold susE at h
  split at h
  case isFalse=>omega
  rename_i h1
  split at h
  case isFalse=>cases h
  rename_i h2
  split at h
  · cases h
  rename_i h3
  rw [inR_iff] at h2
  exact ⟨h1,by omega,h3⟩
theorem given_four {w:AW} {n:Nat} {v:Value} (h:HdV Tryz.prog w n 65 v):∃ a b c d:Int,v=.agg #[.int .i64 a,.int .i64 b,.int .i64 c,.int .i64 d]:=by
  have hu:Tryz.prog.underlying 65=some (.array 4 3):=by kernel_rfl
  simp only [HdV,hu] at h
  obtain ⟨cs,rfl,h⟩:=h
  cases n with
  | zero=>exact h.elim
  | succ n =>
    simp only [Hd,hu] at h
    obtain ⟨parts,e,hl,hp⟩:=h
    match parts,hl with
    | [p0,p1,p2,p3],_ =>
      obtain ⟨x0,rfl⟩:=given_intV (hp p0 (by simp))
      obtain ⟨x1,rfl⟩:=given_intV (hp p1 (by simp))
      obtain ⟨x2,rfl⟩:=given_intV (hp p2 (by simp))
      obtain ⟨x3,rfl⟩:=given_intV (hp p3 (by simp))
      exact ⟨x0,x1,x2,x3,by rw [show cs=cs.toList.toArray from rfl,e];rfl⟩
set_option maxHeartbeats 64000000 in
theorem swap_law (w:AW) (xs:List Value) (f:Fresh w) (h:HdAll Tryz.prog w [26,44,65] xs):CallT Tryz.prog Tryz.T1 (.fn (.func 12) #[]) xs.toArray w fun v _=>v=.bool true:=by
  cases h with
  | cons n1 h1 h =>
  cases h with
  | cons n2 h2 h =>
  cases h with
  | cons n3 h3 h =>
  cases h
  rename_i v1 v2 v3
  obtain ⟨s,pR,pG,pS,cR,cG,cS,rfl,hA⟩:=given_strong h1
  obtain ⟨pL,cL,L,rfl,hL,hPr⟩:=given_cars h2
  obtain ⟨n0,n1,n2,n3,rfl⟩:=given_four h3
  clear h1 h2 h3
  show CallT Tryz.prog Tryz.T1 (.fn (.func 12) #[]) #[.agg (strC pR pG pS cR cG cS s).toArray,.slice pL L.length cL,.agg #[.int .i64 n0,.int .i64 n1,.int .i64 n2,.int .i64 n3]] w _
  have g0:=(Grown.refl f).push (.cells (strC pR pG pS cR cG cS s) 26 w.next 0 0)
  have O0:=Own.new f 26 (strC pR pG pS cR cG cS s)
  have hn0:(w.push (.cells (strC pR pG pS cR cG cS s) 26 w.next 0 0)).next=w.next+1:=AW.next_push _ _
  obtain ⟨w0,hw0⟩:∃ w0,w.push (.cells (strC pR pG pS cR cG cS s) 26 w.next 0 0)=w0:=⟨_,rfl⟩
  rw [hw0] at g0 O0 hn0
  have g1:=g0.push (.cells [.int .i64 n0,.int .i64 n1,.int .i64 n2,.int .i64 n3] 65 w0.next 0 0)
  have N1:=Own.new g0.2 65 [.int .i64 n0,.int .i64 n1,.int .i64 n2,.int .i64 n3]
  have O1:=O0.push (.cells [.int .i64 n0,.int .i64 n1,.int .i64 n2,.int .i64 n3] 65 w0.next 0 0)
  obtain ⟨w1,hw1⟩:∃ w1,w0.push (.cells [.int .i64 n0,.int .i64 n1,.int .i64 n2,.int .i64 n3] 65 w0.next 0 0)=w1:=⟨_,rfl⟩
  rw [hw1] at g1 N1 O1
  have hls:=fun w' (O:Own w' w.next 26 (strC pR pG pS cR cG cS s))=>loadAll O (n:=3) rfl (by simp [strC,oneCell])
  have hl1:=hls w1 O1
  have d0:=N1.cell (o:=0) (v:=.int .i64 n0) rfl rfl
  have ia65:∀ (t:Tmps) (w:AW) (x y:Operand),fast (prg Tryz.prog) t w (.indexAddr 65 x y)=indexA 1 4 (ev t x) (ev t y):=fun t w x y=>fast_indexAddrA Tryz.ty65 Tryz.ty3
  have hix0:∀ (b o:Nat),indexA 1 4 (.pointer (some ⟨b,o,none⟩)) (.int .i64 0)=some (.pointer (some ⟨b,o,none⟩)):=fun b o=>indexA_eq (i:=0) (by decide)
  obtain ⟨kb,hkb⟩:∃ kb:Nat,n0 % 32=kb:=⟨(n0 % 32).toNat,by have:=Int.emod_nonneg n0 (b:=32) (by omega);omega⟩
  have hkb32:kb < 32:=by have:=Int.emod_lt_of_pos n0 (b:=32) (by omega);omega
  have hS1:=Suspects_ok s pR pG pS cR cG cS pL cL L (kb:Int) w1 g1.2 (hA.grown g1) (hL.grown g1)
  have hb0:back kb L 0=[]:=rfl
  have hb20:back2 kb L 0=[]:=rfl
  unfold strC at *
  refine callT_codeX [25,40,41] rfl Tryz.func12 rfl Tryz.s12_eq rfl ?_
  delta Tryz.s12 zo zt zg zh
  simp -dsimp -implicitDefEqProofs (maxSteps:=2000000) (disch:=first|assumption|omega|(simp only [nx];omega)|((repeat refine Fresh.push ?_ _);assumption)|(simp only [smA];done)|(simp [oneCell,AW.next_push];done)|fail) only [go_sem,Nat.reduceEqDiff,reduceIte,Nat.reduceAdd,Tryz.results12,hw0,hw1,ia65,hix0,d0]
  try rw [hw0]
  try rw [hw1]
  apply callV_of (e:=rfl)
  · exact Ring_okV n0 32 (by omega) w1
  rintro _ _ ⟨rfl,rfl⟩
  rw [if_neg (by omega),hkb]
  simp -dsimp -implicitDefEqProofs (maxSteps:=2000000) (disch:=first|assumption|omega|(simp only [nx];omega)|((repeat refine Fresh.push ?_ _);assumption)|(simp only [smA];done)|(simp [oneCell,AW.next_push];done)|fail) only [go_sem,Nat.reduceEqDiff,reduceIte,Nat.reduceAdd,Tryz.results12,hl1]
  apply callV_of (e:=rfl)
  · exact hS1
  rintro _ w2 ⟨g2,u,rfl,hR⟩
  have gg2:=g1.trans g2
  have O2:=O1.keep g2.1
  have N2:=N1.keep g2.1
  have f2:=gg2.2
  by_cases he:susE s L (kb:Int)=0
  case neg =>
    have hz:susN s L (kb:Int)=[]:=by unfold susN;rw [if_neg he]
    rw [hz] at hR
    obtain ⟨p,c,rfl,_⟩:=(RowS.arr hR (by simp)).open
    have hz0:(natsL []).length=0:=rfl
    generalize susE s L (kb:Int)=E at *
    simp -dsimp -implicitDefEqProofs (maxSteps:=2000000) (disch:=first|assumption|omega|(simp only [nx];omega)|((repeat refine Fresh.push ?_ _);assumption)|(simp only [smA];done)|(simp [oneCell,AW.next_push];done)|fail) only [go_sem,Nat.reduceEqDiff,reduceIte,Nat.reduceAdd,Tryz.results12,he,hz0,Int.natCast_zero]
    apply callV_of (e:=rfl)
    · exact callT_told (Q:=fun v w'=>v=.bool true∧w2=w') (v:=.bool true) (w':=w2) rfl ⟨rfl,rfl⟩
    rintro _ _ ⟨rfl,rfl⟩
    simp -dsimp -implicitDefEqProofs (maxSteps:=2000000) (disch:=first|assumption|omega|(simp only [nx];omega)|((repeat refine Fresh.push ?_ _);assumption)|(simp only [smA];done)|(simp [oneCell,AW.next_push];done)|fail) only [go_sem,Nat.reduceEqDiff,reduceIte,Nat.reduceAdd,Tryz.results12]
  obtain ⟨hrun,_,hroom⟩:=sus_zero he
  obtain ⟨hs,ha,hru⟩:=run_log hrun
  have h64L:L.length≤64:=by unfold areB at ha;rw [Bool.and_eq_true] at ha;exact of_decide_eq_true ha.1
  have hsl:=(str_staff hs).2.1
  have hz:susN s L (kb:Int)=leastN (reachB s ((logOf L).trail kb)) s.staff.length:=by unfold susN;rw [if_pos he,Int.toNat_natCast]
  rw [hz] at hR
  have hL0:L ≠ []:=by
    intro z
    subst z
    apply hroom
    show (x0.bag kb).room=0
    unfold LogN.bag
    show ((shelf0)[kb]?.getD _).room=0
    rw [show shelf0=List.replicate 32 _ from rfl,List.getElem?_replicate,if_pos hkb32];rfl
  have hWne:leastN (reachB s ((logOf L).trail kb)) s.staff.length ≠ []:=by
    obtain ⟨w1,w2,w3,w4⟩:=by
      have:=logOf_who hrun L.length (Nat.le_refl _)
      rw [List.take_length] at this
      exact this kb hkb32 hroom
    have ht:=trail_room hrun kb hkb32 L.length (Nat.le_refl _) (by rw [List.take_length];exact hroom)
    rw [List.take_length] at ht
    have hg:2 ^ ((logOf L).bag kb).ca ||| 2 ^ ((logOf L).bag kb).cb < 2 ^ s.staff.length:=Nat.or_lt_two_pow (Nat.pow_lt_pow_right (by omega) w1) (Nat.pow_lt_pow_right (by omega) w2)
    have:=group_some hg (reachB_iff.1 w4) ht
    intro z
    rw [z] at this
    cases this
  have hmW:∀ y ∈ leastN (reachB s ((logOf L).trail kb)) s.staff.length,y < 64:=fun y hy=>by
    have:=(leastN_mem hy).1
    have:=pow6 hsl
    omega
  have hWl:(leastN (reachB s ((logOf L).trail kb)) s.staff.length).length≤64:=leastN_len hsl
  have hu:=RowS.arr hR (by omega)
  have hap:=apart_ok _ hmW (leastN_apart hsl) u w2 f2 hu
  have hWI:¬ ((leastN (reachB s ((logOf L).trail kb)) s.staff.length).length:Int)=0:=by have:=List.length_pos_iff.2 hWne;omega
  have hrest:=fun t w' (g':Grown w w') O' N' e1 e3 e5 e7 u v hu hv e8 e10=>swap_b hrun hL0 kb hkb32 hroom n0 n1 n2 n3 w hA hL w.next w0.next t w' g' O' N' e1 e3 e5 e7 u v hu hv e8 e10
  generalize hWs:leastN (reachB s ((logOf L).trail kb)) s.staff.length=Ws at *
  obtain ⟨pW,cW,rfl,hbW,hatW⟩:=nats_at hu
  simp -dsimp -implicitDefEqProofs (maxSteps:=2000000) (disch:=first|assumption|omega|(simp only [nx];omega)|((repeat refine Fresh.push ?_ _);assumption)|(simp only [smA];done)|(simp [oneCell,AW.next_push];done)|fail) only [go_sem,Nat.reduceEqDiff,reduceIte,Nat.reduceAdd,Tryz.results12,he]
  apply callV_of (e:=rfl)
  · exact hap
  rintro _ _ ⟨rfl,rfl⟩
  simp -dsimp -implicitDefEqProofs (maxSteps:=2000000) (disch:=first|assumption|omega|(simp only [nx];omega)|((repeat refine Fresh.push ?_ _);assumption)|(simp only [smA];done)|(simp [oneCell,AW.next_push];done)|fail) only [go_sem,Nat.reduceEqDiff,reduceIte,Nat.reduceAdd,Tryz.results12,hWI]
  apply joinW (F:=fun t w'=>ev t (.tmp 1)=.slice pL L.length cL∧ev t (.tmp 3)=.pointer (some ⟨w.next,0,none⟩)∧ev t (.tmp 5)=.pointer (some ⟨w0.next,0,none⟩)∧ev t (.tmp 7)=.int .i64 (kb:Int)∧ev t (.tmp 8)=.slice pW Ws.length cW∧Grown w2 w'∧∃ v,ev t (.tmp 10)=v∧RowS 3 w2.next w' v (back kb L L.length))
  case restC =>
    rintro t w' ⟨e1,e3,e5,e7,e8,g',v,e10,hv⟩
    have hbl:=(back_len (kb:=kb) (L:=L) L.length).1
    exact hrest t w' (gg2.trans g') (O2.keep g'.1) (N2.keep g'.1) e1 e3 e5 e7 _ v (hu.grown g') (RowS.arr hv (by omega)) e8 e10
  case mainC =>
  intro go
  refine loopR (fun k t ds w3=>∃ i:Nat,i≤L.length∧k=L.length - i∧ds=[]∧ev t (.tmp 1)=.slice pL L.length cL∧ev t (.tmp 3)=.pointer (some ⟨w.next,0,none⟩)∧ev t (.tmp 5)=.pointer (some ⟨w0.next,0,none⟩)∧ev t (.tmp 7)=.int .i64 (kb:Int)∧ev t (.tmp 8)=.slice pW Ws.length cW∧ev t (.tmp 11)=.int .i64 ((L.length:Int) - 1 - (i:Int))∧∃ (acc:List Nat) (v:Value),ev t (.tmp 10)=v∧acc++back kb L (L.length - i)=back kb L L.length∧RowS 3 w2.next w3 v acc∧Grown w2 w3) (L.length) ?_ ?_
  · refine ⟨0,by omega,by omega,rfl,?_,?_,?_,?_,?_,?_,[],.slice none 0 0,(by simp -dsimp -implicitDefEqProofs (maxSteps:=2000000) (disch:=first|assumption|omega|(simp only [nx];omega)|((repeat refine Fresh.push ?_ _);assumption)|(simp only [smA];done)|(simp [oneCell,AW.next_push];done)|fail) only [go_sem,Nat.reduceEqDiff,reduceIte,Nat.reduceAdd]),rfl,RowS.nil _ _ _,Grown.refl f2⟩ <;> simp -dsimp -implicitDefEqProofs (maxSteps:=2000000) (disch:=first|assumption|omega|(simp only [nx];omega)|((repeat refine Fresh.push ?_ _);assumption)|(simp only [smA];done)|(simp [oneCell,AW.next_push];done)|fail) only [go_sem,Nat.reduceEqDiff,reduceIte,Nat.reduceAdd,Int.natCast_zero,Int.sub_zero] <;> rfl
  rintro k t ds w3 ⟨i,hii,rfl,rfl,e1,e3,e5,e7,e8,e11,acc,v,e10,hacc,hrow,g3⟩
  have hbl:=(back_len (kb:=kb) (L:=L) L.length).1
  have haccl:acc.length≤65:=by
    have:=congrArg List.length hacc
    rw [List.length_append] at this
    omega
  by_cases hlt:i < L.length
  case neg =>
    obtain rfl:i=L.length:=by omega
    have hge:decide ((L.length:Int) - 1 - (L.length:Int) ≥ 0)=false:=decide_eq_false (by omega)
    rw [Nat.sub_self,hb0,List.append_nil] at hacc
    subst hacc
    simp -dsimp -implicitDefEqProofs (maxSteps:=2000000) (disch:=first|assumption|omega|(simp only [nx];omega)|((repeat refine Fresh.push ?_ _);assumption)|(simp only [smA];done)|(simp [oneCell,AW.next_push];done)|fail) only [go_sem,Nat.reduceEqDiff,reduceIte,Nat.reduceAdd,Tryz.results12,e1,e3,e5,e7,e8,e10,e11,hge]
    exact joinW_use go ⟨by (simp -dsimp -implicitDefEqProofs (maxSteps:=2000000) (disch:=first|assumption|omega|(simp only [nx];omega)|((repeat refine Fresh.push ?_ _);assumption)|(simp only [smA];done)|(simp [oneCell,AW.next_push];done)|fail) only [go_sem,Nat.reduceEqDiff,reduceIte,Nat.reduceAdd,e1];try rfl),by (simp -dsimp -implicitDefEqProofs (maxSteps:=2000000) (disch:=first|assumption|omega|(simp only [nx];omega)|((repeat refine Fresh.push ?_ _);assumption)|(simp only [smA];done)|(simp [oneCell,AW.next_push];done)|fail) only [go_sem,Nat.reduceEqDiff,reduceIte,Nat.reduceAdd,e3];try rfl),by (simp -dsimp -implicitDefEqProofs (maxSteps:=2000000) (disch:=first|assumption|omega|(simp only [nx];omega)|((repeat refine Fresh.push ?_ _);assumption)|(simp only [smA];done)|(simp [oneCell,AW.next_push];done)|fail) only [go_sem,Nat.reduceEqDiff,reduceIte,Nat.reduceAdd,e5];try rfl),by (simp -dsimp -implicitDefEqProofs (maxSteps:=2000000) (disch:=first|assumption|omega|(simp only [nx];omega)|((repeat refine Fresh.push ?_ _);assumption)|(simp only [smA];done)|(simp [oneCell,AW.next_push];done)|fail) only [go_sem,Nat.reduceEqDiff,reduceIte,Nat.reduceAdd,e7];try rfl),by (simp -dsimp -implicitDefEqProofs (maxSteps:=2000000) (disch:=first|assumption|omega|(simp only [nx];omega)|((repeat refine Fresh.push ?_ _);assumption)|(simp only [smA];done)|(simp [oneCell,AW.next_push];done)|fail) only [go_sem,Nat.reduceEqDiff,reduceIte,Nat.reduceAdd,e8];try rfl),g3,v,by (simp -dsimp -implicitDefEqProofs (maxSteps:=2000000) (disch:=first|assumption|omega|(simp only [nx];omega)|((repeat refine Fresh.push ?_ _);assumption)|(simp only [smA];done)|(simp [oneCell,AW.next_push];done)|fail) only [go_sem,Nat.reduceEqDiff,reduceIte,Nat.reduceAdd,e10];try rfl),hrow⟩
  obtain ⟨m,hm⟩:∃ m,L.length - i=m+1:=⟨L.length - i - 1,by omega⟩
  have hmL:m < L.length:=by omega
  have hmI:(m:Int) < (L.length:Int):=by omega
  have hmE:(L.length:Int) - 1 - (i:Int)=(m:Int):=by omega
  have hnx:(m:Int) - 1=(L.length:Int) - 1 - ((i+1:Nat):Int):=by omega
  have hsub:L.length - (i+1)=m:=by omega
  have hge:decide ((m:Int) ≥ 0)=true:=decide_eq_true (by omega)
  rw [hmE] at e11
  rw [hm,back_step hmL] at hacc
  obtain ⟨hco,hk1,hk5⟩:=run_cars hrun m hmL
  obtain ⟨hcv,hcd⟩:=run_carry hrun m hmL
  obtain ⟨hcc,_,_⟩:=carry_nat hs hcv hcd
  obtain ⟨t1,t2,t3,_,_⟩:=toN_eq hcc
  obtain ⟨_,_,ex,hcap1,hcap2,hat⟩:=hL.open
  injection ex with ex1 ex2 ex3
  subst ex1 ex3
  obtain ⟨b8,o8,rfl,hb8,hrow8⟩:=arr_row hL carIC_len carIC_one hmL
  have gg3:=gg2.trans g3
  have hld:=hrow8 w3 gg3.1
  have hcq:∀ q (hq:q < L.length) w',Keep w.next w w'→∀ j x,(carIC L[q])[j]? = some x→w'.cell? ⟨b8,o8+q * 8+j,none⟩=some x:=fun q hq w' k j x hx=>by
    obtain ⟨b,o,e',_,hc⟩:=hat q hq
    injection e' with e'
    injection e' with ea eb
    subst ea eb
    exact hc w' k j x hx
  have f3:=g3.2
  have hge2:=g3.1.next
  have O4:=Own.new f3 62 (carIC car0)
  have g4:=(Grown.refl f3).push (.cells (carIC car0) 62 w3.next 0 0)
  have hn4:(w3.push (.cells (carIC car0) 62 w3.next 0 0)).next=w3.next+1:=AW.next_push _ _
  have hz8:carIC car0=[.int .i64 0,.int .i64 0,.int .i64 0,.int .i64 0,.int .i64 0,.int .i64 0,.int .i64 0,.int .i64 0]:=rfl
  obtain ⟨w4,hw4⟩:∃ w4,w3.push (.cells (carIC car0) 62 w3.next 0 0)=w4:=⟨_,rfl⟩
  rw [hw4] at O4 g4 hn4
  rw [hz8] at hw4
  obtain ⟨w5,st5,O5,m5,hn5⟩:=store_new (n:=8) (l:=carIC L[m]) g4.2 O4 rfl rfl (by omega) rfl
  have g35:Grown w3 w5:=⟨g4.1.trans (m5.keep (fun j q=>by have:j=w3.next:=q;omega) g4.1.next),m5.fresh⟩
  have g5:=g3.trans g35
  have gg5:=gg2.trans g5
  have f5:=g5.2
  have hge5:=g5.1.next
  have hrow5:RowS 3 w2.next w5 v acc:=AOwn.keep hrow g35.1 (Nat.le_refl _)
  have k1:=O5.cell (o:=1) (v:=.int .i64 (L[m]).kind) rfl rfl
  have k2:=O5.cell (o:=2) (v:=.int .i64 (L[m]).bag) rfl rfl
  have k3:=O5.cell (o:=3) (v:=.int .i64 (L[m]).to) rfl rfl
  rw [t1] at k1
  rw [t2] at k2
  rw [t3] at k3
  obtain ⟨v6,w6,ap6,hrow6,hk6,hf6,hn6,hap6⟩:=hrow5.appA f5 hge5 (by omega) (L[m]).toN.to
  have O6:=O5.app hap6
  have g6:Grown w2 w6:=⟨g5.1.trans hk6,hf6⟩
  have j1:=O6.cell (o:=1) (v:=.int .i64 (L[m]).kind) rfl rfl
  rw [t1] at j1
  by_cases hbag:(L[m]).toN.bag=kb
  case neg =>
    rw [if_neg hbag] at hacc
    have hbI:¬ ((L[m]).toN.bag:Int)=(kb:Int):=by omega
    simp -dsimp -implicitDefEqProofs (maxSteps:=2000000) (disch:=first|assumption|omega|(simp only [nx];omega)|((repeat refine Fresh.push ?_ _);assumption)|(simp only [smA];done)|(simp [oneCell,AW.next_push];done)|fail) only [go_sem,Nat.reduceEqDiff,reduceIte,Nat.reduceAdd,Tryz.results12,e1,e3,e5,e7,e8,e10,e11,hge,indexV_eq,hmI,hld,hw4,st5,k2,hbI,Nat.zero_add]
    refine ⟨_,by omega,i+1,by omega,rfl,rfl,by (simp -dsimp -implicitDefEqProofs (maxSteps:=2000000) (disch:=first|assumption|omega|(simp only [nx];omega)|((repeat refine Fresh.push ?_ _);assumption)|(simp only [smA];done)|(simp [oneCell,AW.next_push];done)|fail) only [go_sem,Nat.reduceEqDiff,reduceIte,Nat.reduceAdd,e1,hnx];try rfl),by (simp -dsimp -implicitDefEqProofs (maxSteps:=2000000) (disch:=first|assumption|omega|(simp only [nx];omega)|((repeat refine Fresh.push ?_ _);assumption)|(simp only [smA];done)|(simp [oneCell,AW.next_push];done)|fail) only [go_sem,Nat.reduceEqDiff,reduceIte,Nat.reduceAdd,e3,hnx];try rfl),by (simp -dsimp -implicitDefEqProofs (maxSteps:=2000000) (disch:=first|assumption|omega|(simp only [nx];omega)|((repeat refine Fresh.push ?_ _);assumption)|(simp only [smA];done)|(simp [oneCell,AW.next_push];done)|fail) only [go_sem,Nat.reduceEqDiff,reduceIte,Nat.reduceAdd,e5,hnx];try rfl),by (simp -dsimp -implicitDefEqProofs (maxSteps:=2000000) (disch:=first|assumption|omega|(simp only [nx];omega)|((repeat refine Fresh.push ?_ _);assumption)|(simp only [smA];done)|(simp [oneCell,AW.next_push];done)|fail) only [go_sem,Nat.reduceEqDiff,reduceIte,Nat.reduceAdd,e7,hnx];try rfl),by (simp -dsimp -implicitDefEqProofs (maxSteps:=2000000) (disch:=first|assumption|omega|(simp only [nx];omega)|((repeat refine Fresh.push ?_ _);assumption)|(simp only [smA];done)|(simp [oneCell,AW.next_push];done)|fail) only [go_sem,Nat.reduceEqDiff,reduceIte,Nat.reduceAdd,e8,hnx];try rfl),by (simp -dsimp -implicitDefEqProofs (maxSteps:=2000000) (disch:=first|assumption|omega|(simp only [nx];omega)|((repeat refine Fresh.push ?_ _);assumption)|(simp only [smA];done)|(simp [oneCell,AW.next_push];done)|fail) only [go_sem,Nat.reduceEqDiff,reduceIte,Nat.reduceAdd,e11,hnx];try rfl),acc,v,(by (simp -dsimp -implicitDefEqProofs (maxSteps:=2000000) (disch:=first|assumption|omega|(simp only [nx];omega)|((repeat refine Fresh.push ?_ _);assumption)|(simp only [smA];done)|(simp [oneCell,AW.next_push];done)|fail) only [go_sem,Nat.reduceEqDiff,reduceIte,Nat.reduceAdd,e10];try rfl)),(by rw [hsub];exact hacc),hrow5,g5⟩
  rw [if_pos hbag] at hacc
  have hbI:((L[m]).toN.bag:Int)=(kb:Int):=by omega
  have hbd:decide (((L[m]).toN.bag:Int)=(kb:Int))=true:=decide_eq_true hbI
  rw [hbag] at k2
  by_cases q1:(L[m]).toN.kind=1
  · rw [if_pos q1] at hacc
    rw [show ((L[m]).toN.kind:Int)=1 by omega] at k1 j1
    rw [hacc] at hrow6
    simp -dsimp -implicitDefEqProofs (maxSteps:=2000000) (disch:=first|assumption|omega|(simp only [nx];omega)|((repeat refine Fresh.push ?_ _);assumption)|(simp only [smA];done)|(simp [oneCell,AW.next_push];done)|fail) only [go_sem,Nat.reduceEqDiff,reduceIte,Nat.reduceAdd,Tryz.results12,e1,e3,e5,e7,e8,e10,e11,hge,indexV_eq,hmI,hld,hw4,st5,k1,k2,k3,j1,ap6,Nat.zero_add]
    exact joinW_use go ⟨by (simp -dsimp -implicitDefEqProofs (maxSteps:=2000000) (disch:=first|assumption|omega|(simp only [nx];omega)|((repeat refine Fresh.push ?_ _);assumption)|(simp only [smA];done)|(simp [oneCell,AW.next_push];done)|fail) only [go_sem,Nat.reduceEqDiff,reduceIte,Nat.reduceAdd,e1];try rfl),by (simp -dsimp -implicitDefEqProofs (maxSteps:=2000000) (disch:=first|assumption|omega|(simp only [nx];omega)|((repeat refine Fresh.push ?_ _);assumption)|(simp only [smA];done)|(simp [oneCell,AW.next_push];done)|fail) only [go_sem,Nat.reduceEqDiff,reduceIte,Nat.reduceAdd,e3];try rfl),by (simp -dsimp -implicitDefEqProofs (maxSteps:=2000000) (disch:=first|assumption|omega|(simp only [nx];omega)|((repeat refine Fresh.push ?_ _);assumption)|(simp only [smA];done)|(simp [oneCell,AW.next_push];done)|fail) only [go_sem,Nat.reduceEqDiff,reduceIte,Nat.reduceAdd,e5];try rfl),by (simp -dsimp -implicitDefEqProofs (maxSteps:=2000000) (disch:=first|assumption|omega|(simp only [nx];omega)|((repeat refine Fresh.push ?_ _);assumption)|(simp only [smA];done)|(simp [oneCell,AW.next_push];done)|fail) only [go_sem,Nat.reduceEqDiff,reduceIte,Nat.reduceAdd,e7];try rfl),by (simp -dsimp -implicitDefEqProofs (maxSteps:=2000000) (disch:=first|assumption|omega|(simp only [nx];omega)|((repeat refine Fresh.push ?_ _);assumption)|(simp only [smA];done)|(simp [oneCell,AW.next_push];done)|fail) only [go_sem,Nat.reduceEqDiff,reduceIte,Nat.reduceAdd,e8];try rfl),g6,v6,by (simp -dsimp -implicitDefEqProofs (maxSteps:=2000000) (disch:=first|assumption|omega|(simp only [nx];omega)|((repeat refine Fresh.push ?_ _);assumption)|(simp only [smA];done)|(simp [oneCell,AW.next_push];done)|fail) only [go_sem,Nat.reduceEqDiff,reduceIte,Nat.reduceAdd];try rfl),hrow6⟩
  rw [if_neg q1] at hacc
  by_cases q2:(L[m]).toN.kind=2
  · rw [if_pos q2] at hacc
    rw [show ((L[m]).toN.kind:Int)=2 by omega] at k1 j1
    have hacc':(acc++[(L[m]).toN.to])++back kb L m=back kb L L.length:=by rw [List.append_assoc];exact hacc
    simp -dsimp -implicitDefEqProofs (maxSteps:=2000000) (disch:=first|assumption|omega|(simp only [nx];omega)|((repeat refine Fresh.push ?_ _);assumption)|(simp only [smA];done)|(simp [oneCell,AW.next_push];done)|fail) only [go_sem,Nat.reduceEqDiff,reduceIte,Nat.reduceAdd,Tryz.results12,e1,e3,e5,e7,e8,e10,e11,hge,indexV_eq,hmI,hld,hw4,st5,k1,k2,k3,j1,ap6,Nat.zero_add]
    refine ⟨_,by omega,i+1,by omega,rfl,rfl,by (simp -dsimp -implicitDefEqProofs (maxSteps:=2000000) (disch:=first|assumption|omega|(simp only [nx];omega)|((repeat refine Fresh.push ?_ _);assumption)|(simp only [smA];done)|(simp [oneCell,AW.next_push];done)|fail) only [go_sem,Nat.reduceEqDiff,reduceIte,Nat.reduceAdd,e1,hnx];try rfl),by (simp -dsimp -implicitDefEqProofs (maxSteps:=2000000) (disch:=first|assumption|omega|(simp only [nx];omega)|((repeat refine Fresh.push ?_ _);assumption)|(simp only [smA];done)|(simp [oneCell,AW.next_push];done)|fail) only [go_sem,Nat.reduceEqDiff,reduceIte,Nat.reduceAdd,e3,hnx];try rfl),by (simp -dsimp -implicitDefEqProofs (maxSteps:=2000000) (disch:=first|assumption|omega|(simp only [nx];omega)|((repeat refine Fresh.push ?_ _);assumption)|(simp only [smA];done)|(simp [oneCell,AW.next_push];done)|fail) only [go_sem,Nat.reduceEqDiff,reduceIte,Nat.reduceAdd,e5,hnx];try rfl),by (simp -dsimp -implicitDefEqProofs (maxSteps:=2000000) (disch:=first|assumption|omega|(simp only [nx];omega)|((repeat refine Fresh.push ?_ _);assumption)|(simp only [smA];done)|(simp [oneCell,AW.next_push];done)|fail) only [go_sem,Nat.reduceEqDiff,reduceIte,Nat.reduceAdd,e7,hnx];try rfl),by (simp -dsimp -implicitDefEqProofs (maxSteps:=2000000) (disch:=first|assumption|omega|(simp only [nx];omega)|((repeat refine Fresh.push ?_ _);assumption)|(simp only [smA];done)|(simp [oneCell,AW.next_push];done)|fail) only [go_sem,Nat.reduceEqDiff,reduceIte,Nat.reduceAdd,e8,hnx];try rfl),by (simp -dsimp -implicitDefEqProofs (maxSteps:=2000000) (disch:=first|assumption|omega|(simp only [nx];omega)|((repeat refine Fresh.push ?_ _);assumption)|(simp only [smA];done)|(simp [oneCell,AW.next_push];done)|fail) only [go_sem,Nat.reduceEqDiff,reduceIte,Nat.reduceAdd,e11,hnx];try rfl),_,v6,(by (simp -dsimp -implicitDefEqProofs (maxSteps:=2000000) (disch:=first|assumption|omega|(simp only [nx];omega)|((repeat refine Fresh.push ?_ _);assumption)|(simp only [smA];done)|(simp [oneCell,AW.next_push];done)|fail) only [go_sem,Nat.reduceEqDiff,reduceIte,Nat.reduceAdd];try rfl)),(by rw [hsub];exact hacc'),hrow6,g6⟩
  rw [if_neg q2] at hacc
  have n1I:¬ ((L[m]).toN.kind:Int)=1:=by omega
  have n2I:¬ ((L[m]).toN.kind:Int)=2:=by omega
  simp -dsimp -implicitDefEqProofs (maxSteps:=2000000) (disch:=first|assumption|omega|(simp only [nx];omega)|((repeat refine Fresh.push ?_ _);assumption)|(simp only [smA];done)|(simp [oneCell,AW.next_push];done)|fail) only [go_sem,Nat.reduceEqDiff,reduceIte,Nat.reduceAdd,Tryz.results12,e1,e3,e5,e7,e8,e10,e11,hge,indexV_eq,hmI,hld,hw4,st5,k1,k2,k3,n1I,n2I,Nat.zero_add]
  clear k1 k2 k3 j1 ap6 hrow6 hk6 hf6 hn6 hap6 O6 g6
  refine loopR (fun k t ds w7=>∃ z:Nat,z≤m∧k=m - z∧ds=[]∧ev t (.tmp 1)=.slice (some ⟨b8,o8,none⟩) L.length cL∧ev t (.tmp 3)=.pointer (some ⟨w.next,0,none⟩)∧ev t (.tmp 5)=.pointer (some ⟨w0.next,0,none⟩)∧ev t (.tmp 7)=.int .i64 (kb:Int)∧ev t (.tmp 8)=.slice pW Ws.length cW∧ev t (.tmp 10)=v∧ev t (.tmp 13)=.int .i64 ((m:Int) - 1 - (z:Int))∧w5=w7∧back2 kb L (m - z)=back2 kb L m) (m) ?_ ?_
  · refine ⟨0,by omega,by omega,rfl,?_,?_,?_,?_,?_,?_,?_,rfl,rfl⟩ <;> simp -dsimp -implicitDefEqProofs (maxSteps:=2000000) (disch:=first|assumption|omega|(simp only [nx];omega)|((repeat refine Fresh.push ?_ _);assumption)|(simp only [smA];done)|(simp [oneCell,AW.next_push];done)|fail) only [go_sem,Nat.reduceEqDiff,reduceIte,Nat.reduceAdd,e1,e3,e5,e7,e8,e10,Int.natCast_zero,Int.sub_zero] <;> rfl
  rintro k t ds w7 ⟨z,hiz,rfl,rfl,e1,e3,e5,e7,e8,e10,e13,hw,hb2⟩
  subst hw
  by_cases hlk:z < m
  case neg =>
    obtain rfl:z=m:=by omega
    have hge':decide ((z:Int) - 1 - (z:Int) ≥ 0)=false:=decide_eq_false (by omega)
    rw [Nat.sub_self,hb20] at hb2
    rw [← hb2,List.append_nil] at hacc
    subst hacc
    simp -dsimp -implicitDefEqProofs (maxSteps:=2000000) (disch:=first|assumption|omega|(simp only [nx];omega)|((repeat refine Fresh.push ?_ _);assumption)|(simp only [smA];done)|(simp [oneCell,AW.next_push];done)|fail) only [go_sem,Nat.reduceEqDiff,reduceIte,Nat.reduceAdd,Tryz.results12,e1,e3,e5,e7,e8,e10,e13,hge']
    exact joinW_use go ⟨by (simp -dsimp -implicitDefEqProofs (maxSteps:=2000000) (disch:=first|assumption|omega|(simp only [nx];omega)|((repeat refine Fresh.push ?_ _);assumption)|(simp only [smA];done)|(simp [oneCell,AW.next_push];done)|fail) only [go_sem,Nat.reduceEqDiff,reduceIte,Nat.reduceAdd,e1];try rfl),by (simp -dsimp -implicitDefEqProofs (maxSteps:=2000000) (disch:=first|assumption|omega|(simp only [nx];omega)|((repeat refine Fresh.push ?_ _);assumption)|(simp only [smA];done)|(simp [oneCell,AW.next_push];done)|fail) only [go_sem,Nat.reduceEqDiff,reduceIte,Nat.reduceAdd,e3];try rfl),by (simp -dsimp -implicitDefEqProofs (maxSteps:=2000000) (disch:=first|assumption|omega|(simp only [nx];omega)|((repeat refine Fresh.push ?_ _);assumption)|(simp only [smA];done)|(simp [oneCell,AW.next_push];done)|fail) only [go_sem,Nat.reduceEqDiff,reduceIte,Nat.reduceAdd,e5];try rfl),by (simp -dsimp -implicitDefEqProofs (maxSteps:=2000000) (disch:=first|assumption|omega|(simp only [nx];omega)|((repeat refine Fresh.push ?_ _);assumption)|(simp only [smA];done)|(simp [oneCell,AW.next_push];done)|fail) only [go_sem,Nat.reduceEqDiff,reduceIte,Nat.reduceAdd,e7];try rfl),by (simp -dsimp -implicitDefEqProofs (maxSteps:=2000000) (disch:=first|assumption|omega|(simp only [nx];omega)|((repeat refine Fresh.push ?_ _);assumption)|(simp only [smA];done)|(simp [oneCell,AW.next_push];done)|fail) only [go_sem,Nat.reduceEqDiff,reduceIte,Nat.reduceAdd,e8];try rfl),g5,v,by (simp -dsimp -implicitDefEqProofs (maxSteps:=2000000) (disch:=first|assumption|omega|(simp only [nx];omega)|((repeat refine Fresh.push ?_ _);assumption)|(simp only [smA];done)|(simp [oneCell,AW.next_push];done)|fail) only [go_sem,Nat.reduceEqDiff,reduceIte,Nat.reduceAdd,e10];try rfl),hrow5⟩
  obtain ⟨q,hq⟩:∃ q,m - z=q+1:=⟨m - z - 1,by omega⟩
  have hqL:q < L.length:=by omega
  have hqI:(q:Int) < (L.length:Int):=by omega
  have hqE:(m:Int) - 1 - (z:Int)=(q:Int):=by omega
  have hqn:(q:Int) - 1=(m:Int) - 1 - ((z+1:Nat):Int):=by omega
  have hqs:m - (z+1)=q:=by omega
  have hge':decide ((q:Int) ≥ 0)=true:=decide_eq_true (by omega)
  rw [hqE] at e13
  rw [hq,back2_step hqL] at hb2
  obtain ⟨hcv2,hcd2⟩:=run_carry hrun q hqL
  obtain ⟨hcc2,_,_⟩:=carry_nat hs hcv2 hcd2
  obtain ⟨u1,u2,u3,_,_⟩:=toN_eq hcc2
  have k1:=hcq q hqL w5 gg5.1 1 (.int .i64 (L[q]).kind) rfl
  have k2:=hcq q hqL w5 gg5.1 2 (.int .i64 (L[q]).bag) rfl
  have k3:=hcq q hqL w5 gg5.1 3 (.int .i64 (L[q]).to) rfl
  rw [u1] at k1
  rw [u2] at k2
  rw [u3] at k3
  by_cases hbq:(L[q]).toN.bag=kb
  case neg =>
    have hbd:decide (((L[q]).toN.bag:Int)=(kb:Int))=false:=decide_eq_false (by omega)
    rw [if_neg (fun y=>hbq y.1)] at hb2
    simp -dsimp -implicitDefEqProofs (maxSteps:=2000000) (disch:=first|assumption|omega|(simp only [nx];omega)|((repeat refine Fresh.push ?_ _);assumption)|(simp only [smA];done)|(simp [oneCell,AW.next_push];done)|fail) only [go_sem,Nat.reduceEqDiff,reduceIte,Nat.reduceAdd,Tryz.results12,e1,e3,e5,e7,e8,e10,e13,hge',indexV_eq,hqI,k2,hbd]
    refine ⟨_,by omega,z+1,by omega,rfl,rfl,by (simp -dsimp -implicitDefEqProofs (maxSteps:=2000000) (disch:=first|assumption|omega|(simp only [nx];omega)|((repeat refine Fresh.push ?_ _);assumption)|(simp only [smA];done)|(simp [oneCell,AW.next_push];done)|fail) only [go_sem,Nat.reduceEqDiff,reduceIte,Nat.reduceAdd,e1,hqn];try rfl),by (simp -dsimp -implicitDefEqProofs (maxSteps:=2000000) (disch:=first|assumption|omega|(simp only [nx];omega)|((repeat refine Fresh.push ?_ _);assumption)|(simp only [smA];done)|(simp [oneCell,AW.next_push];done)|fail) only [go_sem,Nat.reduceEqDiff,reduceIte,Nat.reduceAdd,e3,hqn];try rfl),by (simp -dsimp -implicitDefEqProofs (maxSteps:=2000000) (disch:=first|assumption|omega|(simp only [nx];omega)|((repeat refine Fresh.push ?_ _);assumption)|(simp only [smA];done)|(simp [oneCell,AW.next_push];done)|fail) only [go_sem,Nat.reduceEqDiff,reduceIte,Nat.reduceAdd,e5,hqn];try rfl),by (simp -dsimp -implicitDefEqProofs (maxSteps:=2000000) (disch:=first|assumption|omega|(simp only [nx];omega)|((repeat refine Fresh.push ?_ _);assumption)|(simp only [smA];done)|(simp [oneCell,AW.next_push];done)|fail) only [go_sem,Nat.reduceEqDiff,reduceIte,Nat.reduceAdd,e7,hqn];try rfl),by (simp -dsimp -implicitDefEqProofs (maxSteps:=2000000) (disch:=first|assumption|omega|(simp only [nx];omega)|((repeat refine Fresh.push ?_ _);assumption)|(simp only [smA];done)|(simp [oneCell,AW.next_push];done)|fail) only [go_sem,Nat.reduceEqDiff,reduceIte,Nat.reduceAdd,e8,hqn];try rfl),by (simp -dsimp -implicitDefEqProofs (maxSteps:=2000000) (disch:=first|assumption|omega|(simp only [nx];omega)|((repeat refine Fresh.push ?_ _);assumption)|(simp only [smA];done)|(simp [oneCell,AW.next_push];done)|fail) only [go_sem,Nat.reduceEqDiff,reduceIte,Nat.reduceAdd,e10,hqn];try rfl),by (simp -dsimp -implicitDefEqProofs (maxSteps:=2000000) (disch:=first|assumption|omega|(simp only [nx];omega)|((repeat refine Fresh.push ?_ _);assumption)|(simp only [smA];done)|(simp [oneCell,AW.next_push];done)|fail) only [go_sem,Nat.reduceEqDiff,reduceIte,Nat.reduceAdd,e13,hqn];try rfl),rfl,(by rw [hqs];exact hb2)⟩
  rw [hbq] at k2
  obtain ⟨v6,w6,ap6,hrow6,hk6,hf6,hn6,hap6⟩:=hrow5.appA f5 hge5 (by omega) (L[q]).toN.to
  have g6:Grown w2 w6:=⟨g5.1.trans hk6,hf6⟩
  by_cases p1:(L[q]).toN.kind=1
  · rw [if_pos ⟨hbq,.inl p1⟩] at hb2
    rw [← hb2] at hacc
    rw [hacc] at hrow6
    rw [show ((L[q]).toN.kind:Int)=1 by omega] at k1
    simp -dsimp -implicitDefEqProofs (maxSteps:=2000000) (disch:=first|assumption|omega|(simp only [nx];omega)|((repeat refine Fresh.push ?_ _);assumption)|(simp only [smA];done)|(simp [oneCell,AW.next_push];done)|fail) only [go_sem,Nat.reduceEqDiff,reduceIte,Nat.reduceAdd,Tryz.results12,e1,e3,e5,e7,e8,e10,e13,hge',indexV_eq,hqI,k1,k2,k3,ap6]
    exact joinW_use go ⟨by (simp -dsimp -implicitDefEqProofs (maxSteps:=2000000) (disch:=first|assumption|omega|(simp only [nx];omega)|((repeat refine Fresh.push ?_ _);assumption)|(simp only [smA];done)|(simp [oneCell,AW.next_push];done)|fail) only [go_sem,Nat.reduceEqDiff,reduceIte,Nat.reduceAdd,e1];try rfl),by (simp -dsimp -implicitDefEqProofs (maxSteps:=2000000) (disch:=first|assumption|omega|(simp only [nx];omega)|((repeat refine Fresh.push ?_ _);assumption)|(simp only [smA];done)|(simp [oneCell,AW.next_push];done)|fail) only [go_sem,Nat.reduceEqDiff,reduceIte,Nat.reduceAdd,e3];try rfl),by (simp -dsimp -implicitDefEqProofs (maxSteps:=2000000) (disch:=first|assumption|omega|(simp only [nx];omega)|((repeat refine Fresh.push ?_ _);assumption)|(simp only [smA];done)|(simp [oneCell,AW.next_push];done)|fail) only [go_sem,Nat.reduceEqDiff,reduceIte,Nat.reduceAdd,e5];try rfl),by (simp -dsimp -implicitDefEqProofs (maxSteps:=2000000) (disch:=first|assumption|omega|(simp only [nx];omega)|((repeat refine Fresh.push ?_ _);assumption)|(simp only [smA];done)|(simp [oneCell,AW.next_push];done)|fail) only [go_sem,Nat.reduceEqDiff,reduceIte,Nat.reduceAdd,e7];try rfl),by (simp -dsimp -implicitDefEqProofs (maxSteps:=2000000) (disch:=first|assumption|omega|(simp only [nx];omega)|((repeat refine Fresh.push ?_ _);assumption)|(simp only [smA];done)|(simp [oneCell,AW.next_push];done)|fail) only [go_sem,Nat.reduceEqDiff,reduceIte,Nat.reduceAdd,e8];try rfl),g6,v6,by (simp -dsimp -implicitDefEqProofs (maxSteps:=2000000) (disch:=first|assumption|omega|(simp only [nx];omega)|((repeat refine Fresh.push ?_ _);assumption)|(simp only [smA];done)|(simp [oneCell,AW.next_push];done)|fail) only [go_sem,Nat.reduceEqDiff,reduceIte,Nat.reduceAdd];try rfl),hrow6⟩
  by_cases p2:(L[q]).toN.kind=2
  · rw [if_pos ⟨hbq,.inr p2⟩] at hb2
    rw [← hb2] at hacc
    rw [hacc] at hrow6
    rw [show ((L[q]).toN.kind:Int)=2 by omega] at k1
    simp -dsimp -implicitDefEqProofs (maxSteps:=2000000) (disch:=first|assumption|omega|(simp only [nx];omega)|((repeat refine Fresh.push ?_ _);assumption)|(simp only [smA];done)|(simp [oneCell,AW.next_push];done)|fail) only [go_sem,Nat.reduceEqDiff,reduceIte,Nat.reduceAdd,Tryz.results12,e1,e3,e5,e7,e8,e10,e13,hge',indexV_eq,hqI,k1,k2,k3,ap6]
    exact joinW_use go ⟨by (simp -dsimp -implicitDefEqProofs (maxSteps:=2000000) (disch:=first|assumption|omega|(simp only [nx];omega)|((repeat refine Fresh.push ?_ _);assumption)|(simp only [smA];done)|(simp [oneCell,AW.next_push];done)|fail) only [go_sem,Nat.reduceEqDiff,reduceIte,Nat.reduceAdd,e1];try rfl),by (simp -dsimp -implicitDefEqProofs (maxSteps:=2000000) (disch:=first|assumption|omega|(simp only [nx];omega)|((repeat refine Fresh.push ?_ _);assumption)|(simp only [smA];done)|(simp [oneCell,AW.next_push];done)|fail) only [go_sem,Nat.reduceEqDiff,reduceIte,Nat.reduceAdd,e3];try rfl),by (simp -dsimp -implicitDefEqProofs (maxSteps:=2000000) (disch:=first|assumption|omega|(simp only [nx];omega)|((repeat refine Fresh.push ?_ _);assumption)|(simp only [smA];done)|(simp [oneCell,AW.next_push];done)|fail) only [go_sem,Nat.reduceEqDiff,reduceIte,Nat.reduceAdd,e5];try rfl),by (simp -dsimp -implicitDefEqProofs (maxSteps:=2000000) (disch:=first|assumption|omega|(simp only [nx];omega)|((repeat refine Fresh.push ?_ _);assumption)|(simp only [smA];done)|(simp [oneCell,AW.next_push];done)|fail) only [go_sem,Nat.reduceEqDiff,reduceIte,Nat.reduceAdd,e7];try rfl),by (simp -dsimp -implicitDefEqProofs (maxSteps:=2000000) (disch:=first|assumption|omega|(simp only [nx];omega)|((repeat refine Fresh.push ?_ _);assumption)|(simp only [smA];done)|(simp [oneCell,AW.next_push];done)|fail) only [go_sem,Nat.reduceEqDiff,reduceIte,Nat.reduceAdd,e8];try rfl),g6,v6,by (simp -dsimp -implicitDefEqProofs (maxSteps:=2000000) (disch:=first|assumption|omega|(simp only [nx];omega)|((repeat refine Fresh.push ?_ _);assumption)|(simp only [smA];done)|(simp [oneCell,AW.next_push];done)|fail) only [go_sem,Nat.reduceEqDiff,reduceIte,Nat.reduceAdd];try rfl),hrow6⟩
  have p1d:decide (((L[q]).toN.kind:Int)=1)=false:=decide_eq_false (by omega)
  have p2d:decide (((L[q]).toN.kind:Int)=2)=false:=decide_eq_false (by omega)
  rw [if_neg (fun y=>by rcases y.2 with y|y;exact p1 y;exact p2 y)] at hb2
  simp -dsimp -implicitDefEqProofs (maxSteps:=2000000) (disch:=first|assumption|omega|(simp only [nx];omega)|((repeat refine Fresh.push ?_ _);assumption)|(simp only [smA];done)|(simp [oneCell,AW.next_push];done)|fail) only [go_sem,Nat.reduceEqDiff,reduceIte,Nat.reduceAdd,Tryz.results12,e1,e3,e5,e7,e8,e10,e13,hge',indexV_eq,hqI,k1,k2,p1d,p2d]
  refine ⟨_,by omega,z+1,by omega,rfl,rfl,by (simp -dsimp -implicitDefEqProofs (maxSteps:=2000000) (disch:=first|assumption|omega|(simp only [nx];omega)|((repeat refine Fresh.push ?_ _);assumption)|(simp only [smA];done)|(simp [oneCell,AW.next_push];done)|fail) only [go_sem,Nat.reduceEqDiff,reduceIte,Nat.reduceAdd,e1,hqn];try rfl),by (simp -dsimp -implicitDefEqProofs (maxSteps:=2000000) (disch:=first|assumption|omega|(simp only [nx];omega)|((repeat refine Fresh.push ?_ _);assumption)|(simp only [smA];done)|(simp [oneCell,AW.next_push];done)|fail) only [go_sem,Nat.reduceEqDiff,reduceIte,Nat.reduceAdd,e3,hqn];try rfl),by (simp -dsimp -implicitDefEqProofs (maxSteps:=2000000) (disch:=first|assumption|omega|(simp only [nx];omega)|((repeat refine Fresh.push ?_ _);assumption)|(simp only [smA];done)|(simp [oneCell,AW.next_push];done)|fail) only [go_sem,Nat.reduceEqDiff,reduceIte,Nat.reduceAdd,e5,hqn];try rfl),by (simp -dsimp -implicitDefEqProofs (maxSteps:=2000000) (disch:=first|assumption|omega|(simp only [nx];omega)|((repeat refine Fresh.push ?_ _);assumption)|(simp only [smA];done)|(simp [oneCell,AW.next_push];done)|fail) only [go_sem,Nat.reduceEqDiff,reduceIte,Nat.reduceAdd,e7,hqn];try rfl),by (simp -dsimp -implicitDefEqProofs (maxSteps:=2000000) (disch:=first|assumption|omega|(simp only [nx];omega)|((repeat refine Fresh.push ?_ _);assumption)|(simp only [smA];done)|(simp [oneCell,AW.next_push];done)|fail) only [go_sem,Nat.reduceEqDiff,reduceIte,Nat.reduceAdd,e8,hqn];try rfl),by (simp -dsimp -implicitDefEqProofs (maxSteps:=2000000) (disch:=first|assumption|omega|(simp only [nx];omega)|((repeat refine Fresh.push ?_ _);assumption)|(simp only [smA];done)|(simp [oneCell,AW.next_push];done)|fail) only [go_sem,Nat.reduceEqDiff,reduceIte,Nat.reduceAdd,e10,hqn];try rfl),by (simp -dsimp -implicitDefEqProofs (maxSteps:=2000000) (disch:=first|assumption|omega|(simp only [nx];omega)|((repeat refine Fresh.push ?_ _);assumption)|(simp only [smA];done)|(simp [oneCell,AW.next_push];done)|fail) only [go_sem,Nat.reduceEqDiff,reduceIte,Nat.reduceAdd,e13,hqn];try rfl),rfl,(by rw [hqs];exact hb2)⟩
end Go.Proofs

namespace Go.Proofs
open Go Go.RowKit Go.Sim
set_option maxRecDepth 100000
def Tryz.s95:SC:=(.seq (.ops false [zo (some 4) (.assign (.const (.int .i64 0))) 3]) (.seq (.ops false [zo (some 5) (.move (.tmp 0)) 77,zo (some 6) (.call ⟨.value (.func 98),⟨[(.tmp 5)]⟩,⟨[77]⟩⟩) 3,zo (some 7) (.move (.tmp 1)) 77,zo (some 8) (.call ⟨.value (.func 98),⟨[(.tmp 7)]⟩,⟨[77]⟩⟩) 3,zo (some 9) (.call ⟨.value (.func 97),⟨[(.tmp 6),(.tmp 8)]⟩,⟨[3,3]⟩⟩) 3,zo (some 10) (.move (.tmp 0)) 77,zo (some 11) (.move (.tmp 1)) 77,zo (some 12) (.call ⟨.value (.func 99),⟨[(.tmp 10),(.tmp 11)]⟩,⟨[77,77]⟩⟩) 3,zo (some 13) (.buildSlice 24 2 ⟨[(0,(.tmp 9)),(1,(.tmp 12))]⟩) 24,zo (some 14) (.call ⟨.value (.func 96),⟨[(.tmp 13)]⟩,⟨[24]⟩⟩) 3,zo (some 4) (.assign (.tmp 14)) 3]) .ret))
def Tryz.s96:SC:=(.seq (.ops false [zo (some 2) (.assign (.const (.int .i64 0))) 3]) (.seq (.ops false [zo (some 3) (.assign (.const (.int .i64 0))) 3]) (.seq (.seq (.ops false [zo (some 6) (.move (.tmp 0)) 24,zo (some 7) (.call ⟨.builtin .len,⟨[(.tmp 6)]⟩,⟨[24]⟩⟩) 3,zo (some 8) (.move (.const (.int .i64 0))) 3]) (.block 0 (.loop (.seq (.ops false [zo (some 9) (.binOp .lss 3 (.tmp 8) (.tmp 7) 3) 0]) (.seq (.cond (.tmp 9) .skip (.exit 0)) (.seq (.block 1 (.seq (.ops false [zo (some 10) (.indexAddr 24 (.tmp 6) (.tmp 8)) 0,zo (some 11) (.load 3 (.tmp 10)) 3,zo (some 5) (.assign (.tmp 11)) 3]) (.seq (.ops false [zo (some 12) (.move (.tmp 5)) 3,zo (some 13) (.move (.tmp 3)) 3,zo (some 14) (.binOp .neq 3 (.tmp 12) (.tmp 13) 3) 4]) (.cond (.tmp 14) (.seq (.ops false [zo (some 15) (.move (.tmp 5)) 3,zo (some 2) (.assign (.tmp 15)) 3]) .ret) .skip)))) (.ops false [zo (some 16) (.binOp .add 3 (.tmp 8) (.const (.int .i64 1)) 3) 3,zo (some 8) (.move (.tmp 16)) 3]))))))) (.seq (.ops false [zo (some 17) (.move (.tmp 3)) 3,zo (some 2) (.assign (.tmp 17)) 3]) .ret))))
def Tryz.s97:SC:=(.seq (.ops false [zo (some 4) (.assign (.const (.int .i64 0))) 3]) (.seq (.ops false [zo (some 7) (.move (.tmp 0)) 3,zo (some 8) (.call ⟨.value (.func 117),⟨[(.tmp 7)]⟩,⟨[3]⟩⟩) 4,zo (some 5) (.assign (.tmp 8)) 4]) (.seq (.ops false [zo (some 9) (.move (.tmp 1)) 3,zo (some 10) (.call ⟨.value (.func 117),⟨[(.tmp 9)]⟩,⟨[3]⟩⟩) 4,zo (some 6) (.assign (.tmp 10)) 4]) (.seq (.seq (.ops false [zo (some 11) (.move (.tmp 5)) 4]) (.cond (.tmp 11) (.seq (.seq (.ops false [zo (some 12) (.move (.tmp 6)) 4]) (.cond (.tmp 12) (.seq (.ops false [zo (some 4) (.assign (.const (.int .i64 0))) 3]) .ret) .skip)) (.seq (.ops false [zo (some 4) (.assign (.const (.int .i64 (-1)))) 3]) .ret)) .skip)) (.seq (.seq (.ops false [zo (some 13) (.move (.tmp 6)) 4]) (.cond (.tmp 13) (.seq (.ops false [zo (some 4) (.assign (.const (.int .i64 1))) 3]) .ret) .skip)) (.seq (.seq (.ops false [zo (some 14) (.move (.tmp 0)) 3,zo (some 15) (.move (.tmp 1)) 3,zo (some 16) (.binOp .lss 3 (.tmp 14) (.tmp 15) 3) 4]) (.cond (.tmp 16) (.seq (.ops false [zo (some 4) (.assign (.const (.int .i64 (-1)))) 3]) .ret) .skip)) (.seq (.seq (.ops false [zo (some 17) (.move (.tmp 0)) 3,zo (some 18) (.move (.tmp 1)) 3,zo (some 19) (.binOp .gtr 3 (.tmp 17) (.tmp 18) 3) 4]) (.cond (.tmp 19) (.seq (.ops false [zo (some 4) (.assign (.const (.int .i64 1))) 3]) .ret) .skip)) (.seq (.ops false [zo (some 4) (.assign (.const (.int .i64 0))) 3]) .ret))))))))
def Tryz.s99:SC:=(.seq (.ops false [zo (some 4) (.assign (.const (.int .i64 0))) 3]) (.seq (.ops false [zo (some 7) (.move (.tmp 0)) 77,zo (some 8) (.call ⟨.value (.func 119),⟨[(.tmp 7)]⟩,⟨[77]⟩⟩) 4,zo (some 5) (.assign (.tmp 8)) 4]) (.seq (.ops false [zo (some 9) (.move (.tmp 1)) 77,zo (some 10) (.call ⟨.value (.func 119),⟨[(.tmp 9)]⟩,⟨[77]⟩⟩) 4,zo (some 6) (.assign (.tmp 10)) 4]) (.seq (.seq (.ops false [zo (some 11) (.move (.tmp 5)) 4]) (.cond (.tmp 11) (.seq (.seq (.ops false [zo (some 12) (.move (.tmp 6)) 4]) (.cond (.tmp 12) (.seq (.ops false [zo (some 4) (.assign (.const (.int .i64 0))) 3]) .ret) .skip)) (.seq (.ops false [zo (some 4) (.assign (.const (.int .i64 (-1)))) 3]) .ret)) .skip)) (.seq (.seq (.ops false [zo (some 13) (.move (.tmp 6)) 4]) (.cond (.tmp 13) (.seq (.ops false [zo (some 4) (.assign (.const (.int .i64 1))) 3]) .ret) .skip)) (.seq (.seq (.ops false [zo (some 14) (.move (.tmp 0)) 77,zo (some 15) (.move (.tmp 1)) 77,zo (some 16) (.binOp .lss 77 (.tmp 14) (.tmp 15) 77) 4]) (.cond (.tmp 16) (.seq (.ops false [zo (some 4) (.assign (.const (.int .i64 (-1)))) 3]) .ret) .skip)) (.seq (.seq (.ops false [zo (some 17) (.move (.tmp 0)) 77,zo (some 18) (.move (.tmp 1)) 77,zo (some 19) (.binOp .gtr 77 (.tmp 17) (.tmp 18) 77) 4]) (.cond (.tmp 19) (.seq (.ops false [zo (some 4) (.assign (.const (.int .i64 1))) 3]) .ret) .skip)) (.seq (.ops false [zo (some 4) (.assign (.const (.int .i64 0))) 3]) .ret))))))))
def Tryz.s117:SC:=(.seq (.ops false [zo (some 2) (.assign (.const (.bool false))) 4]) (.seq (.ops false [zo (some 3) (.move (.tmp 0)) 3,zo (some 4) (.move (.tmp 0)) 3,zo (some 5) (.binOp .neq 3 (.tmp 3) (.tmp 4) 3) 4,zo (some 2) (.assign (.tmp 5)) 4]) .ret))
def Tryz.s119:SC:=(.seq (.ops false [zo (some 2) (.assign (.const (.bool false))) 4]) (.seq (.ops false [zo (some 3) (.move (.tmp 0)) 77,zo (some 4) (.move (.tmp 0)) 77,zo (some 5) (.binOp .neq 77 (.tmp 3) (.tmp 4) 77) 4,zo (some 2) (.assign (.tmp 5)) 4]) .ret))
theorem Tryz.s95_eq:Tryz.f95.body.map sOf=some Tryz.s95:=by kernel_rfl
theorem Tryz.s96_eq:Tryz.f96.body.map sOf=some Tryz.s96:=by kernel_rfl
theorem Tryz.s97_eq:Tryz.f97.body.map sOf=some Tryz.s97:=by kernel_rfl
theorem Tryz.s99_eq:Tryz.f99.body.map sOf=some Tryz.s99:=by kernel_rfl
theorem Tryz.s117_eq:Tryz.f117.body.map sOf=some Tryz.s117:=by kernel_rfl
theorem Tryz.s119_eq:Tryz.f119.body.map sOf=some Tryz.s119:=by kernel_rfl
end Go.Proofs

namespace Go.Sim
open Go Go.RowKit
theorem calls_flat {P:Program} (hP:Fit P) (hfol:P.follows .mixedOrders=true) {told:ToldF} (ht:∀ N,ToldOk P N told) {f:FuncId} {l:List Value} {v:Value} (hno:told f (l.toArray++#[]) .empty=none) (hl:flat.flats 6 l=true) (hv:flat 6 v=true)
    (h:CallT P told (.fn (.func f) #[]) l.toArray .empty fun u _=>u=v) (W:World):Calls P f l.toArray W fun e W'=>e=.returned v∧BelowD W.heap.size W W':=by
  obtain ⟨N,u,w1,hh,rfl⟩:=h
  have h1:=hh N (N+1) (Nat.le_refl _) (by omega)
  have hno':told f l.toArray .empty=none:=by simpa using hno
  simp only [acall,Array.append_empty,hno'] at h1
  intro cs
  have ha:ARel (fun _=>none) l.toArray l.toArray:=ARel.iff.2 (by simpa using flats_self (flat_self 6) hl _)
  obtain ⟨σ',v',W',fr,s,hf,hlv,e,r⟩:=enter_leaves hP hfol (call_ok hP hfol (ht W.heap.size) N) (call_pan hP hfol (ht W.heap.size) N) h1 cs (WRel.empty W) (args':=l.toArray) ha
  have:=flat_eq 6 u hv σ' v' r
  subst this
  exact ⟨.returned v',W',fr,⟨rfl,e.below⟩,s,hf,hlv⟩
theorem grown_of {W W':World} (h:BelowD W.heap.size W W'):∃ q os,W'=Go.Sort.grow (W.drewN q) os:=by
  obtain ⟨⟨h1,h2,h3,h4,h5⟩,h6⟩:=h
  refine ⟨W'.drawn - W.drawn,W'.heap.extract W.heap.size W'.heap.size,?_⟩
  obtain ⟨hp,tp,dr,os,out⟩:=W
  obtain ⟨hp',tp',dr',os',out'⟩:=W'
  simp only at *
  subst h1 h2 h3
  have e1:hp'=hp++hp'.extract hp.size hp'.size:=by
    apply Array.ext_getElem?
    intro k
    rw [Array.getElem?_append]
    split
    · rename_i hk
      exact h5 k hk
    · rename_i hk
      rw [Array.getElem?_extract]
      split
      · congr 1;omega
      · rename_i hk2
        rw [Array.getElem?_eq_none (by omega)]
  have e2:dr+(dr' - dr)=dr':=by omega
  simp only [Go.Sort.grow,World.drewN,← e1,e2]
end Go.Sim

namespace Go.Proofs
open Go Go.RowKit Go.Sim
set_option maxRecDepth 100000
def Tryz.T0c:ToldF:=toldTab Tryz.lenTab (toldTab Tryz.popTab (toldTrue 21 fun _ _ _=>none))
def cmpI (a b:Int):Int:=if a < b then -1 else if b < a then 1 else 0
theorem isNaN_ok (x:Int) (w:AW):CallT Tryz.prog Tryz.T0c (.fn (.func 117) #[]) #[.int .i64 x] w (Ret (.bool false) fun w'=>w=w'):=by
  have d1:decide (x=x)=true:=decide_eq_true rfl
  refine callT_code rfl Tryz.func117 rfl Tryz.s117_eq rfl ?_
  delta Tryz.s117 zo zt zg zh
  simp -dsimp -implicitDefEqProofs (maxSteps:=2000000) (disch:=first|assumption|omega|(simp only [nx];omega)|((repeat refine Fresh.push ?_ _);assumption)|(simp only [smA];done)|(simp [oneCell,AW.next_push];done)|fail) only [go_sem,Nat.reduceEqDiff,reduceIte,Nat.reduceAdd,Tryz.results117,d1]
  exact ⟨rfl,rfl⟩
theorem isNaNP_ok (x:Int) (w:AW):CallT Tryz.prog Tryz.T0c (.fn (.func 119) #[]) #[.int .i64 x] w (Ret (.bool false) fun w'=>w=w'):=by
  have d1:decide (x=x)=true:=decide_eq_true rfl
  refine callT_code rfl Tryz.func119 rfl Tryz.s119_eq rfl ?_
  delta Tryz.s119 zo zt zg zh
  simp -dsimp -implicitDefEqProofs (maxSteps:=2000000) (disch:=first|assumption|omega|(simp only [nx];omega)|((repeat refine Fresh.push ?_ _);assumption)|(simp only [smA];done)|(simp [oneCell,AW.next_push];done)|fail) only [go_sem,Nat.reduceEqDiff,reduceIte,Nat.reduceAdd,Tryz.results119,d1]
  exact ⟨rfl,rfl⟩
theorem compare_ok (a b:Int) (w:AW):CallT Tryz.prog Tryz.T0c (.fn (.func 97) #[]) #[.int .i64 a,.int .i64 b] w (Ret (.int .i64 (cmpI a b)) fun w'=>w=w'):=by
  refine callT_code rfl Tryz.func97 rfl Tryz.s97_eq rfl ?_
  delta Tryz.s97 zo zt zg zh
  simp -dsimp -implicitDefEqProofs (maxSteps:=2000000) (disch:=first|assumption|omega|(simp only [nx];omega)|((repeat refine Fresh.push ?_ _);assumption)|(simp only [smA];done)|(simp [oneCell,AW.next_push];done)|fail) only [go_sem,Nat.reduceEqDiff,reduceIte,Nat.reduceAdd,Tryz.results97]
  apply callV_of (e:=rfl)
  · exact isNaN_ok _ w
  rintro _ _ ⟨rfl,rfl⟩
  simp -dsimp -implicitDefEqProofs (maxSteps:=2000000) (disch:=first|assumption|omega|(simp only [nx];omega)|((repeat refine Fresh.push ?_ _);assumption)|(simp only [smA];done)|(simp [oneCell,AW.next_push];done)|fail) only [go_sem,Nat.reduceEqDiff,reduceIte,Nat.reduceAdd,Tryz.results97]
  apply callV_of (e:=rfl)
  · exact isNaN_ok _ w
  rintro _ _ ⟨rfl,rfl⟩
  by_cases h1:a < b
  · simp -dsimp -implicitDefEqProofs (maxSteps:=2000000) (disch:=first|assumption|omega|(simp only [nx];omega)|((repeat refine Fresh.push ?_ _);assumption)|(simp only [smA];done)|(simp [oneCell,AW.next_push];done)|fail) only [go_sem,Nat.reduceEqDiff,reduceIte,Nat.reduceAdd,Tryz.results97,h1]
    exact ⟨by unfold cmpI;rw [if_pos h1],rfl⟩
  by_cases h2:b < a
  · have h2':a > b:=h2
    simp -dsimp -implicitDefEqProofs (maxSteps:=2000000) (disch:=first|assumption|omega|(simp only [nx];omega)|((repeat refine Fresh.push ?_ _);assumption)|(simp only [smA];done)|(simp [oneCell,AW.next_push];done)|fail) only [go_sem,Nat.reduceEqDiff,reduceIte,Nat.reduceAdd,Tryz.results97,h1,h2,h2']
    exact ⟨by unfold cmpI;rw [if_neg h1,if_pos h2],rfl⟩
  · have h2':¬ a > b:=h2
    simp -dsimp -implicitDefEqProofs (maxSteps:=2000000) (disch:=first|assumption|omega|(simp only [nx];omega)|((repeat refine Fresh.push ?_ _);assumption)|(simp only [smA];done)|(simp [oneCell,AW.next_push];done)|fail) only [go_sem,Nat.reduceEqDiff,reduceIte,Nat.reduceAdd,Tryz.results97,h1,h2,h2']
    exact ⟨by unfold cmpI;rw [if_neg h1,if_neg h2],rfl⟩
theorem compareP_ok (a b:Int) (w:AW):CallT Tryz.prog Tryz.T0c (.fn (.func 99) #[]) #[.int .i64 a,.int .i64 b] w (Ret (.int .i64 (cmpI a b)) fun w'=>w=w'):=by
  refine callT_code rfl Tryz.func99 rfl Tryz.s99_eq rfl ?_
  delta Tryz.s99 zo zt zg zh
  simp -dsimp -implicitDefEqProofs (maxSteps:=2000000) (disch:=first|assumption|omega|(simp only [nx];omega)|((repeat refine Fresh.push ?_ _);assumption)|(simp only [smA];done)|(simp [oneCell,AW.next_push];done)|fail) only [go_sem,Nat.reduceEqDiff,reduceIte,Nat.reduceAdd,Tryz.results99]
  apply callV_of (e:=rfl)
  · exact isNaNP_ok _ w
  rintro _ _ ⟨rfl,rfl⟩
  simp -dsimp -implicitDefEqProofs (maxSteps:=2000000) (disch:=first|assumption|omega|(simp only [nx];omega)|((repeat refine Fresh.push ?_ _);assumption)|(simp only [smA];done)|(simp [oneCell,AW.next_push];done)|fail) only [go_sem,Nat.reduceEqDiff,reduceIte,Nat.reduceAdd,Tryz.results99]
  apply callV_of (e:=rfl)
  · exact isNaNP_ok _ w
  rintro _ _ ⟨rfl,rfl⟩
  by_cases h1:a < b
  · simp -dsimp -implicitDefEqProofs (maxSteps:=2000000) (disch:=first|assumption|omega|(simp only [nx];omega)|((repeat refine Fresh.push ?_ _);assumption)|(simp only [smA];done)|(simp [oneCell,AW.next_push];done)|fail) only [go_sem,Nat.reduceEqDiff,reduceIte,Nat.reduceAdd,Tryz.results99,h1]
    exact ⟨by unfold cmpI;rw [if_pos h1],rfl⟩
  by_cases h2:b < a
  · have h2':a > b:=h2
    simp -dsimp -implicitDefEqProofs (maxSteps:=2000000) (disch:=first|assumption|omega|(simp only [nx];omega)|((repeat refine Fresh.push ?_ _);assumption)|(simp only [smA];done)|(simp [oneCell,AW.next_push];done)|fail) only [go_sem,Nat.reduceEqDiff,reduceIte,Nat.reduceAdd,Tryz.results99,h1,h2,h2']
    exact ⟨by unfold cmpI;rw [if_neg h1,if_pos h2],rfl⟩
  · have h2':¬ a > b:=h2
    simp -dsimp -implicitDefEqProofs (maxSteps:=2000000) (disch:=first|assumption|omega|(simp only [nx];omega)|((repeat refine Fresh.push ?_ _);assumption)|(simp only [smA];done)|(simp [oneCell,AW.next_push];done)|fail) only [go_sem,Nat.reduceEqDiff,reduceIte,Nat.reduceAdd,Tryz.results99,h1,h2,h2']
    exact ⟨by unfold cmpI;rw [if_neg h1,if_neg h2],rfl⟩
theorem sizeT_ok (x:Nat) (h:x < 64) (w:AW):CallT Tryz.prog Tryz.T0c (.fn (.func 98) #[]) #[.int .i64 (x:Int)] w (Ret (.int .i64 (popN x:Int)) fun w'=>w=w'):=by
  refine callT_told (v:=.int .i64 (popN x:Int)) (w':=w) ?_ ⟨rfl,rfl⟩
  show (match tabArg Tryz.popTab [.int Tryz.popTab.k (x:Int)] with|some x=>some (Tryz.popTab.g x,w)|none=>none)=_
  rw [tabArg_at (s:=Tryz.popTab) (.inl rfl) h]
  rfl
def orI (a b:Int):Int:=if a=0 then b else a
theorem or_ok (a b:Int) (bk:Nat) (w:AW) (h:Own w bk 3 [.int .i64 a,.int .i64 b]):CallT Tryz.prog Tryz.T0c (.fn (.func 96) #[]) #[.slice (some ⟨bk,0,none⟩) 2 2] w (Ret (.int .i64 (orI a b)) fun w'=>w=w'):=by
  have c0:=h.cell (o:=0) rfl rfl
  have c1:=h.cell (o:=1) rfl rfl
  refine callT_code rfl Tryz.func96 rfl Tryz.s96_eq rfl ?_
  delta Tryz.s96 zo zt zg zh
  simp -dsimp -implicitDefEqProofs (maxSteps:=2000000) (disch:=first|assumption|omega|(simp only [nx];omega)|((repeat refine Fresh.push ?_ _);assumption)|(simp only [smA];done)|(simp [oneCell,AW.next_push];done)|fail) only [go_sem,Nat.reduceEqDiff,reduceIte,Nat.reduceAdd,Tryz.results96]
  refine loopR (fun k t ds w1=>∃ i:Nat,i≤2∧k=2 - i∧ds=[]∧ev t (.tmp 3)=.int .i64 0∧ev t (.tmp 6)=.slice (some ⟨bk,0,none⟩) 2 2∧ev t (.tmp 7)=.int .i64 2∧ev t (.tmp 8)=.int .i64 (i:Int)∧(1≤i→a=0)∧(2≤i→b=0)∧w=w1) (2) ?_ ?_
  · refine ⟨0,by omega,by omega,rfl,?_,?_,?_,?_,fun h=>by omega,fun h=>by omega,rfl⟩ <;> simp -dsimp -implicitDefEqProofs (maxSteps:=2000000) (disch:=first|assumption|omega|(simp only [nx];omega)|((repeat refine Fresh.push ?_ _);assumption)|(simp only [smA];done)|(simp [oneCell,AW.next_push];done)|fail) only [go_sem,Nat.reduceEqDiff,reduceIte,Nat.reduceAdd] <;> rfl
  rintro k t ds w1 ⟨i,hii,rfl,rfl,e3,e6,e7,e8,hz,hw⟩
  obtain ⟨hz2,rfl⟩:=hw
  rcases Nat.lt_or_ge i 2 with hlt|hge
  case inr =>
    obtain rfl:i=2:=by omega
    have hlI:¬ ((2:Nat):Int) < 2:=by omega
    have ha:=hz (by omega)
    have hb:=hz2 (by omega)
    simp -dsimp -implicitDefEqProofs (maxSteps:=2000000) (disch:=first|assumption|omega|(simp only [nx];omega)|((repeat refine Fresh.push ?_ _);assumption)|(simp only [smA];done)|(simp [oneCell,AW.next_push];done)|fail) only [go_sem,Nat.reduceEqDiff,reduceIte,Nat.reduceAdd,Tryz.results96,e3,e6,e7,e8,hlI]
    exact ⟨by rw [ha,hb];rfl,rfl⟩
  have hlI:(i:Int) < 2:=by omega
  have hl0:(i:Int) < ((2:Nat):Int):=by omega
  obtain ⟨v,hv⟩:∃ v,v=if i=0 then a else b:=⟨_,rfl⟩
  have ci:w.cell? ⟨bk,i,none⟩=some (.int .i64 v):=by
    rw [hv]
    rcases Nat.eq_zero_or_pos i with h0|h0
    · rw [if_pos h0,h0];exact c0
    · obtain h1:i=1:=by omega
      rw [if_neg (by omega),h1];exact c1
  by_cases h0:v=0
  · have hd:decide (v=0)=true:=decide_eq_true h0
    simp -dsimp -implicitDefEqProofs (maxSteps:=2000000) (disch:=first|assumption|omega|(simp only [nx];omega)|((repeat refine Fresh.push ?_ _);assumption)|(simp only [smA];done)|(simp [oneCell,AW.next_push];done)|fail) only [go_sem,Nat.reduceEqDiff,reduceIte,Nat.reduceAdd,Tryz.results96,e3,e6,e7,e8,hlI,hl0,indexV_eq,Nat.zero_add,Nat.mul_one,ci,hd]
    have n1:1≤i+1→a=0:=fun _=>by
      rcases Nat.eq_zero_or_pos i with q|q
      · rw [if_pos q] at hv;omega
      · exact hz q
    have n2:2≤i+1→b=0:=fun _=>by
      rw [if_neg (by omega)] at hv;omega
    refine ⟨_,by omega,i+1,by omega,rfl,rfl,by (simp -dsimp -implicitDefEqProofs (maxSteps:=2000000) (disch:=first|assumption|omega|(simp only [nx];omega)|((repeat refine Fresh.push ?_ _);assumption)|(simp only [smA];done)|(simp [oneCell,AW.next_push];done)|fail) only [go_sem,Nat.reduceEqDiff,reduceIte,Nat.reduceAdd,e3];try rfl),by (simp -dsimp -implicitDefEqProofs (maxSteps:=2000000) (disch:=first|assumption|omega|(simp only [nx];omega)|((repeat refine Fresh.push ?_ _);assumption)|(simp only [smA];done)|(simp [oneCell,AW.next_push];done)|fail) only [go_sem,Nat.reduceEqDiff,reduceIte,Nat.reduceAdd,e6];try rfl),by (simp -dsimp -implicitDefEqProofs (maxSteps:=2000000) (disch:=first|assumption|omega|(simp only [nx];omega)|((repeat refine Fresh.push ?_ _);assumption)|(simp only [smA];done)|(simp [oneCell,AW.next_push];done)|fail) only [go_sem,Nat.reduceEqDiff,reduceIte,Nat.reduceAdd,e7];try rfl),by (simp -dsimp -implicitDefEqProofs (maxSteps:=2000000) (disch:=first|assumption|omega|(simp only [nx];omega)|((repeat refine Fresh.push ?_ _);assumption)|(simp only [smA];done)|(simp [oneCell,AW.next_push];done)|fail) only [go_sem,Nat.reduceEqDiff,reduceIte,Nat.reduceAdd,e8];try rfl),n1,n2,rfl⟩
  · have hd:decide (v=0)=false:=decide_eq_false h0
    simp -dsimp -implicitDefEqProofs (maxSteps:=2000000) (disch:=first|assumption|omega|(simp only [nx];omega)|((repeat refine Fresh.push ?_ _);assumption)|(simp only [smA];done)|(simp [oneCell,AW.next_push];done)|fail) only [go_sem,Nat.reduceEqDiff,reduceIte,Nat.reduceAdd,Tryz.results96,e3,e6,e7,e8,hlI,hl0,indexV_eq,Nat.zero_add,Nat.mul_one,ci,hd]
    refine ⟨?_,rfl⟩
    unfold orI
    rcases Nat.eq_zero_or_pos i with q|q
    · rw [if_pos q] at hv;rw [if_neg (by omega),hv]
    · rw [if_neg (by omega)] at hv;rw [if_pos (hz q),hv]
theorem Tryz.bs24x2 (t:Tmps) (l:List (Nat × Operand)):makes (prg Tryz.prog) t (.buildSlice 24 2 ⟨l⟩)=bsQ 3 2 1 [.int .i64 0,.int .i64 0] (l.map fun p=>(p.1,ev t p.2)):=makes_bs Tryz.ty24 Tryz.ty3 rfl (by kernel_rfl)
theorem cmpN_is (x y:Nat):orI (cmpI (popN x:Int) (popN y:Int)) (cmpI (x:Int) (y:Int))=cmpN x y:=by
  unfold orI cmpI cmpN
  repeat' split
  all_goals omega
theorem cmpSets_ok (x y:Nat) (hx:x < 64) (hy:y < 64) (w:AW) (f:Fresh w):CallT Tryz.prog Tryz.T0c (.fn (.func 95) #[]) #[.int .i64 (x:Int),.int .i64 (y:Int)] w fun v _=>v=.int .i64 (cmpN x y):=by
  refine callT_code rfl Tryz.func95 rfl Tryz.s95_eq rfl ?_
  delta Tryz.s95 zo zt zg zh
  simp -dsimp -implicitDefEqProofs (maxSteps:=2000000) (disch:=first|assumption|omega|(simp only [nx];omega)|((repeat refine Fresh.push ?_ _);assumption)|(simp only [smA];done)|(simp [oneCell,AW.next_push];done)|fail) only [go_sem,Nat.reduceEqDiff,reduceIte,Nat.reduceAdd,Tryz.results95]
  apply callV_of (e:=rfl)
  · exact sizeT_ok x hx w
  rintro _ _ ⟨rfl,rfl⟩
  simp -dsimp -implicitDefEqProofs (maxSteps:=2000000) (disch:=first|assumption|omega|(simp only [nx];omega)|((repeat refine Fresh.push ?_ _);assumption)|(simp only [smA];done)|(simp [oneCell,AW.next_push];done)|fail) only [go_sem,Nat.reduceEqDiff,reduceIte,Nat.reduceAdd,Tryz.results95]
  apply callV_of (e:=rfl)
  · exact sizeT_ok y hy w
  rintro _ _ ⟨rfl,rfl⟩
  simp -dsimp -implicitDefEqProofs (maxSteps:=2000000) (disch:=first|assumption|omega|(simp only [nx];omega)|((repeat refine Fresh.push ?_ _);assumption)|(simp only [smA];done)|(simp [oneCell,AW.next_push];done)|fail) only [go_sem,Nat.reduceEqDiff,reduceIte,Nat.reduceAdd,Tryz.results95]
  apply callV_of (e:=rfl)
  · exact compare_ok _ _ w
  rintro _ _ ⟨rfl,rfl⟩
  simp -dsimp -implicitDefEqProofs (maxSteps:=2000000) (disch:=first|assumption|omega|(simp only [nx];omega)|((repeat refine Fresh.push ?_ _);assumption)|(simp only [smA];done)|(simp [oneCell,AW.next_push];done)|fail) only [go_sem,Nat.reduceEqDiff,reduceIte,Nat.reduceAdd,Tryz.results95]
  apply callV_of (e:=rfl)
  · exact compareP_ok _ _ w
  rintro _ _ ⟨rfl,rfl⟩
  simp -dsimp -implicitDefEqProofs (maxSteps:=2000000) (disch:=first|assumption|omega|(simp only [nx];omega)|((repeat refine Fresh.push ?_ _);assumption)|(simp only [smA];done)|(simp [oneCell,AW.next_push];done)|fail) only [go_sem,Nat.reduceEqDiff,reduceIte,Nat.reduceAdd,Tryz.results95,Tryz.bs24x2,bsQ_21]
  apply callV_of (e:=rfl)
  · exact or_ok _ _ w.next _ (Own.new f 3 [.int .i64 (cmpI (popN x:Int) (popN y:Int)),.int .i64 (cmpI (x:Int) (y:Int))])
  rintro _ _ ⟨rfl,rfl⟩
  simp -dsimp -implicitDefEqProofs (maxSteps:=2000000) (disch:=first|assumption|omega|(simp only [nx];omega)|((repeat refine Fresh.push ?_ _);assumption)|(simp only [smA];done)|(simp [oneCell,AW.next_push];done)|fail) only [go_sem,Nat.reduceEqDiff,reduceIte,Nat.reduceAdd,Tryz.results95]
  rw [cmpN_is]
end Go.Proofs

namespace Go.Sim
open Go Go.RowKit
variable {P:Program} {N F:Nat}
inductive GDat where
  | flat (v:Value)
  | sl (n c:Nat) (cells:List GDat)
  | agg (ds:List GDat)
def matchCells (m:GDat→Value→Bool) (w:AW) (b:Nat):List GDat→Nat→Bool
  | [],_=>true
  | d :: l,o=>match w.cell? ⟨b,o,none⟩ with
    | some u=>m d u && matchCells m w b l (o+1)
    | none=>false
def matchAll (m:GDat→Value→Bool):List GDat→List Value→Bool
  | [],[]=>true
  | d :: l,v :: r=>m d v && matchAll m l r
  | _,_=>false
def zeroZ (w:AW) (b:Nat):Bool :=
  match w.blk b with
  | some (.cells _ _ _ _ 0)|some (.given _)=>true
  | _=>false
def matchV (w:AW):Nat→GDat→Value→Bool
  | 0,_,_=>false
  | k+1,d,v=>match d,v with
    | .flat u,v=>flat 6 u && same 12 u v
    | .sl n c cells,.slice (some ⟨b,o,none⟩) n' c'=>Nat.beq n n' && Nat.beq c c' && Nat.blt 0 c && zeroZ w b && matchCells (matchV w k) w b cells o
    | .agg ds,.agg cs=>matchAll (matchV w k) ds cs.toList
    | _,_=>false
def giveAll (g:GDat→AW→Value × AW):List GDat→AW→List Value × AW
  | [],w=>([],w)
  | d :: l,w=>match g d w with
    | (u,w1)=>match giveAll g l w1 with
      | (us,w2)=>(u :: us,w2)
def giveV:Nat→GDat→AW→Value × AW
  | 0,_,w=>(undef,w)
  | k + 1,d,w=>match d with
    | .flat u=>(u,w)
    | .sl n c cells=>match giveAll (giveV k) cells w with
      | (us,w1)=>(.slice (some ⟨w1.next,0,none⟩) n c,w1.push (.given us))
    | .agg ds=>match giveAll (giveV k) ds w with
      | (us,w1)=>(.agg us.toArray,w1)
def GiveOk (W:World) (m:GDat→Value→Bool) (g:GDat→AW→Value × AW) (σ:Emb):Prop :=
  ∀ d v v',m d v=true→VRel σ v v'→∀ (σ0:Emb) (w0:AW),WRel W.heap.size σ0 w0 W→∃ σ1:Emb,σ0.le σ1∧WRel W.heap.size σ1 (g d w0).2 W∧VRel σ1 (g d w0).1 v'
theorem giveAll_ok {W:World} {m:GDat→Value→Bool} {g:GDat→AW→Value × AW} {σ:Emb} (h:GiveOk W m g σ):∀ (ds:List GDat) (vs vs':List Value),matchAll m ds vs=true→LRel σ vs vs'→∀ (σ0:Emb) (w0:AW),WRel W.heap.size σ0 w0 W →
    ∃ σ1:Emb,σ0.le σ1∧WRel W.heap.size σ1 (giveAll g ds w0).2 W∧LRel σ1 (giveAll g ds w0).1 vs'
  | [],[],vs',_,hr,σ0,w0,hw=>by
    cases hr
    exact ⟨σ0,.refl _,hw,.nil⟩
  | d :: l,v :: r,vs',hm,hr,σ0,w0,hw=>by
    cases hr with
    | cons h1 h2 =>
      simp only [matchAll,Bool.and_eq_true] at hm
      obtain ⟨σ1,a1,a2,a3⟩:=h d v _ hm.1 h1 σ0 w0 hw
      obtain ⟨σ2,b1,b2,b3⟩:=giveAll_ok h l r _ hm.2 h2 σ1 _ a2
      exact ⟨σ2,a1.trans b1,b2,.cons (a3.mono b1) b3⟩
  | [],_ :: _,_,h,_,_,_,_=>by simp [matchAll] at h
  | _ :: _,[],_,h,_,_,_,_=>by simp [matchAll] at h
theorem cells_list {W:World} {w:AW} {σ:Emb} {N:Nat} (hw:WRel N σ w W) {m:GDat→Value→Bool} {b:Nat} {x:Loc} (hb:σ b=some x):∀ (ds:List GDat) (o:Nat),matchCells m w b ds o=true →
    ∃ vs vs':List Value,matchAll m ds vs=true∧LRel σ vs vs'∧vs'.length=ds.length∧∀ (i:Nat) u,vs'[i]? = some u→W.cell? ⟨x.c,x.s+(o+i),none⟩=some u
  | [],o,_=>⟨[],[],rfl,.nil,rfl,fun i u h=>by simp at h⟩
  | d :: l,o,h=>by
    simp only [matchCells] at h
    split at h
    case h_2=>cases h
    rename_i u hu
    simp only [Bool.and_eq_true] at h
    obtain ⟨u',h1,h2,_⟩:=hw.cell hb hu
    obtain ⟨vs,vs',a1,a2,a3,a4⟩:=cells_list hw hb l (o+1) h.2
    refine ⟨u :: vs,u' :: vs',by simp only [matchAll,Bool.and_eq_true];exact ⟨h.1,a1⟩,.cons h2 a2,by simp [a3],fun i q hq=>?_⟩
    cases i with
    | zero=>simp at hq;subst hq;exact h1
    | succ i=>simp at hq;have:=a4 i q hq;rw [show o+(i+1)=o+1+i by omega];exact this
theorem give_ok {W:World} {w:AW} {σ:Emb} (hw:WRel N σ w W):∀ k,GiveOk W (matchV w k) (giveV k) σ
  | 0=>fun d v v' h=>by simp [matchV] at h
  | k + 1 => by
    have ih:=give_ok hw k
    intro d v v' hm hr σ0 w0 h0
    unfold matchV at hm
    split at hm
    · rename_i u
      simp only [Bool.and_eq_true] at hm
      have:=same_eq 12 _ _ hm.2
      subst this
      have e:=flat_eq 6 _ hm.1 σ v' hr
      subst e
      exact ⟨σ0,.refl _,h0,flat_self 6 _ hm.1 σ0⟩
    · rename_i n c cells b o n' c'
      simp only [Bool.and_eq_true] at hm
      obtain ⟨⟨⟨⟨h1,h2⟩,h5⟩,h3⟩,h4⟩:=hm
      obtain rfl:=Nat.eq_of_beq_eq_true h1
      obtain rfl:=Nat.eq_of_beq_eq_true h2
      have hzx:∀ x,σ b=some x→x.z=0:=by
        intro x hx
        obtain ⟨_,q,hq,hl,hb⟩:=hw.dom b x hx
        unfold zeroZ at h3
        rw [hq] at h3
        cases q with
        | cells c0 e0 r0 b0 z0 =>
          split at h3
          · rename_i e;injection e with e;injection e with _ _ _ _ e;subst e;exact hb.1
          · rename_i e;injection e with e;cases e
          · cases h3
        | given c0=>exact hl.1
        | _=>simp at h3
      cases hr with
      | slice hx hk hcap =>
        rename_i k' x
        have hz:=hzx x hx
        have hkk:k'=c:=by rcases hcap with q|q;exact q;omega
        subst hkk
        obtain ⟨vs,vs',b1,b2,b3,b4⟩:=cells_list hw hx cells o h4
        obtain ⟨σ1,a1,a2,a3⟩:=giveAll_ok ih cells vs vs' b1 b2 σ0 w0 h0
        simp only [giveV]
        have hlen:=a3.length
        refine ⟨σ1.with (giveAll (giveV k) cells w0).2.next ⟨x.c,x.s+o,0,0⟩,a1.trans (Emb.le_with a2.fresh _),WRel.give a2 _ _ rfl ?_ ?_,?_⟩
        · cases hv:(giveAll (giveV k) cells w0).1 with
          | nil=>exact .inl rfl
          | cons y ys =>
            right
            rw [hv] at hlen
            have h1:=b4 0 (vs'[0]'(by rw [← hlen];simp)) (by simp)
            obtain ⟨cc,ce,fr,q,_⟩:=cell_at h1
            rcases Nat.lt_or_ge x.c W.heap.size with q'|q'
            · exact q'
            · rw [Array.getElem?_eq_none q'] at q;cases q
        · intro i u hi hone
          obtain ⟨u',hu',r⟩:=a3.getSome hi
          obtain ⟨cc,ce,fr,q,q2⟩:=cell_at (b4 i u' hu')
          exact ⟨cc,ce,fr,u',q,by rw [show x.s+o+i=x.s+(o+i) by omega];exact q2,r⟩
        · exact VRel.slice (x:=⟨x.c,x.s+o,0,0⟩) (o:=0) (Emb.with_self _ _ _) (Nat.le_refl _) (.inl rfl)
      | tail hx a=>exact absurd (Nat.blt_eq.mp h5) (by omega)
    · rename_i ds cs
      cases hr with
      | agg ha hav =>
        rename_i cs'
        have hl:LRel σ cs.toList cs'.toList:=ARel.iff.1 (by exact ⟨ha,hav⟩)
        obtain ⟨σ1,a1,a2,a3⟩:=giveAll_ok ih ds cs.toList cs'.toList hm hl σ0 w0 h0
        exact ⟨σ1,a1,a2,VRel.agg_of (ARel.iff.2 (by simpa [giveV] using a3))⟩
    · cases hm
theorem calls_give (hP:Fit P) (hfol:P.follows .mixedOrders=true) {told:ToldF} (ht:∀ N,ToldOk P N told) {n k:Nat} {f:FuncId} {ds:List GDat} {v:Value} (hno:(told f ((giveAll (giveV k) ds .empty).1.toArray++#[]) (giveAll (giveV k) ds .empty).2).isNone=true) (hv:flat 6 v=true)
    (h:isVal (xcall (prg P) (xsOf (prg P)) told F (n+1) (.fn (.func f) #[]) (giveAll (giveV k) ds .empty).1 (giveAll (giveV k) ds .empty).2) v=true) {N:Nat} {σ:Emb} {w:AW} {W:World} (hw:WRel N σ w W) {args args':List Value} (hm:matchAll (matchV w k) ds args=true) (hr:LRel σ args args') :
    Calls P f args'.toArray W fun e W'=>e=.returned v∧BelowD W.heap.size W W':=by
  obtain ⟨σ0,_,g2,g3⟩:=giveAll_ok (give_ok hw k) ds args args' hm hr (fun _=>none) .empty (WRel.empty W)
  generalize (giveAll (giveV k) ds .empty).1=us at *
  generalize (giveAll (giveV k) ds .empty).2=w0 at *
  rw [xcall_eq hP.funcs] at h
  unfold isVal at h
  split at h
  case h_2=>cases h
  rename_i u w1 hr'
  have hu:=same_eq 12 _ _ h
  subst hu
  simp only [acall] at hr'
  rw [Option.isNone_iff_eq_none.mp hno] at hr'
  simp only [Array.append_empty] at hr'
  intro cs
  have ha:ARel σ0 us.toArray args'.toArray:=ARel.iff.2 (by simpa using g3)
  obtain ⟨σ',v',W',fr,s,hf,hlv,e,r⟩:=enter_leaves hP hfol (call_ok hP hfol (ht W.heap.size) n) (call_pan hP hfol (ht W.heap.size) n) hr' cs g2 (args':=args'.toArray) ha
  have:=flat_eq 6 v hv σ' v' r
  subst this
  exact ⟨.returned v',W',fr,⟨rfl,e.below⟩,s,hf,hlv⟩
structure GMemo where
  f:FuncId
  k:Nat
  ds:List GDat
  val:Value
def findG (f:FuncId) (args:List Value) (w:AW):List GMemo→Option Value
  | []=>none
  | m :: l=>match Nat.beq f m.f with
    | true=>match matchAll (matchV w m.k) m.ds args with
      | true=>some m.val
      | false=>findG f args w l
    | false=>findG f args w l
def toldGive (tab:List GMemo) (told:ToldF):ToldF:=fun f args w =>
  match findG f args.toList w tab with
  | some v=>some (v,w)
  | none=>told f args w
structure GMemoOk (P:Program) (m:GMemo):Prop where
  enters:∀ args w,(callFunc m.f args).run P w=.ok (.enter m.f args) w
  flatVal:flat 6 m.val=true
  calls:∀ (N:Nat) (σ:Emb) (w:AW) (W:World),WRel N σ w W→∀ args args',matchAll (matchV w m.k) m.ds args=true→LRel σ args args'→Calls P m.f args'.toArray W fun e W'=>e=.returned m.val∧BelowD W.heap.size W W'
inductive GMemosOk (P:Program):List GMemo→Prop where
  | nil:GMemosOk P []
  | cons {m:GMemo} {l:List GMemo} (h:GMemoOk P m) (t:GMemosOk P l):GMemosOk P (m :: l)
theorem findG_ok {f:FuncId} {args:List Value} {w:AW} {v:Value}:∀ {tab:List GMemo},GMemosOk P tab→findG f args w tab=some v→∃ m,GMemoOk P m∧m.f=f∧matchAll (matchV w m.k) m.ds args=true∧m.val=v
  | _,.nil,h=>by cases h
  | _, .cons hm ht,h=>by
    simp only [findG] at h
    split at h
    · rename_i hf
      split at h
      · rename_i hs
        injection h with h
        exact ⟨_,hm,(Nat.eq_of_beq_eq_true hf).symm,hs,h⟩
      · exact findG_ok ht h
    · exact findG_ok ht h
theorem toldGive_ok {tab:List GMemo} (hm:GMemosOk P tab) {told:ToldF} (ht:∀ N,ToldOk P N told) (N:Nat):ToldOk P N (toldGive tab told):=by
  intro f args w w1 v h σ W args0 cap c cs hw ha
  unfold toldGive at h
  split at h
  · rename_i u hu
    injection h with h;injection h with h1 h2
    subst h1 h2
    obtain ⟨m,hok,rfl,hargs,rfl⟩:=findG_ok hm hu
    have hc:=hok.calls N σ w W hw args.toList (args0++cap).toList hargs (ARel.iff.1 ha)
    rw [show (args0++cap).toList.toArray=args0++cap from rfl] at hc
    obtain ⟨W',d1,d2⟩:=delivers_calls hok.enters hc c cs
    exact ⟨σ,_,W',d1,hw.aside d2,flat_self 6 _ hok.flatVal σ⟩
  · exact ht N f args w w1 v h σ W args0 cap c cs hw ha
end Go.Sim

namespace Go.Proofs
open Go Go.Shelf Go.RowKit Go.Sim
set_option maxRecDepth 1000000
theorem Tryz.fits:Fit Tryz.prog:=fit_of (by decide +kernel)
theorem Tryz.mixed:Tryz.prog.follows .mixedOrders=true:=by decide +kernel
theorem Tryz.told0 (N:Nat):ToldOk Tryz.prog N (fun _ _ _=>none):=fun f args w w1 v h=>by cases h
end Go.Proofs

namespace Go.Proofs
open Go Go.RowKit Go.Sim
set_option maxRecDepth 1000000
def Tryz.give0:GMemo:=⟨15,12,[.agg [.sl 3 3 [.flat (.int .i64 (0)),.flat (.int .i64 (0)),.flat (.int .i64 (0)),.flat (.int .i64 (2)),.flat (.int .i64 (0)),.flat (.int .i64 (4)),.flat (.int .i64 (1)),.flat (.int .i64 (1)),.flat (.int .i64 (0))],.sl 3 3 [.flat (.int .i64 (0)),.flat (.int .i64 (1)),.flat (.int .i64 (1)),.sl 1 1 [.flat (.int .i64 (1))],.flat (.int .i64 (1)),.flat (.int .i64 (2)),.flat (.int .i64 (2)),.sl 1 1 [.flat (.int .i64 (6))],.flat (.int .i64 (0)),.flat (.int .i64 (2)),.flat (.int .i64 (1)),.sl 1 1 [.flat (.int .i64 (8))]],.sl 3 3 [.flat (.int .i64 (1)),.flat (.int .i64 (2)),.flat (.int .i64 (3))]],.flat (.int .i64 (3))],.tuple #[.int .i64 (7),.int .i64 (0)]⟩
theorem Tryz.give0_ok:GMemoOk Tryz.prog Tryz.give0:={
  enters:=fun args w=>Tryz.call15 args w
  flatVal:=by decide
  calls:=fun N σ w W hw args args' hm hr=>calls_give (F:=1000000) (told:=fun _ _ _=>none) Tryz.fits Tryz.mixed Tryz.told0 (n:=99) (k:=12) (ds:=Tryz.give0.ds) (by rfl) (by decide) (by decide +kernel) hw hm hr }
def Tryz.give1:GMemo:=⟨17,12,[.agg [.sl 3 3 [.flat (.int .i64 (0)),.flat (.int .i64 (0)),.flat (.int .i64 (0)),.flat (.int .i64 (2)),.flat (.int .i64 (0)),.flat (.int .i64 (4)),.flat (.int .i64 (1)),.flat (.int .i64 (1)),.flat (.int .i64 (0))],.sl 3 3 [.flat (.int .i64 (0)),.flat (.int .i64 (1)),.flat (.int .i64 (1)),.sl 1 1 [.flat (.int .i64 (1))],.flat (.int .i64 (1)),.flat (.int .i64 (2)),.flat (.int .i64 (2)),.sl 1 1 [.flat (.int .i64 (6))],.flat (.int .i64 (0)),.flat (.int .i64 (2)),.flat (.int .i64 (1)),.sl 1 1 [.flat (.int .i64 (8))]],.sl 3 3 [.flat (.int .i64 (1)),.flat (.int .i64 (2)),.flat (.int .i64 (3))]]],.int .i64 (0)⟩
theorem Tryz.give1_ok:GMemoOk Tryz.prog Tryz.give1:={
  enters:=fun args w=>Tryz.call17 args w
  flatVal:=by decide
  calls:=fun N σ w W hw args args' hm hr=>calls_give (F:=1000000) (told:=fun _ _ _=>none) Tryz.fits Tryz.mixed Tryz.told0 (n:=99) (k:=12) (ds:=Tryz.give1.ds) (by rfl) (by decide) (by decide +kernel) hw hm hr }
def Tryz.give2:GMemo:=⟨19,12,[.agg [.sl 3 3 [.flat (.int .i64 (0)),.flat (.int .i64 (0)),.flat (.int .i64 (0)),.flat (.int .i64 (2)),.flat (.int .i64 (0)),.flat (.int .i64 (4)),.flat (.int .i64 (1)),.flat (.int .i64 (1)),.flat (.int .i64 (0))],.sl 3 3 [.flat (.int .i64 (0)),.flat (.int .i64 (1)),.flat (.int .i64 (1)),.sl 1 1 [.flat (.int .i64 (1))],.flat (.int .i64 (1)),.flat (.int .i64 (2)),.flat (.int .i64 (2)),.sl 1 1 [.flat (.int .i64 (6))],.flat (.int .i64 (0)),.flat (.int .i64 (2)),.flat (.int .i64 (1)),.sl 1 1 [.flat (.int .i64 (8))]],.sl 3 3 [.flat (.int .i64 (1)),.flat (.int .i64 (2)),.flat (.int .i64 (3))]],.flat (.int .i64 (1)),.flat (.int .i64 (3))],.tuple #[.bool true,.int .i64 (0)]⟩
theorem Tryz.give2_ok:GMemoOk Tryz.prog Tryz.give2:={
  enters:=fun args w=>Tryz.call19 args w
  flatVal:=by decide
  calls:=fun N σ w W hw args args' hm hr=>calls_give (F:=1000000) (told:=fun _ _ _=>none) Tryz.fits Tryz.mixed Tryz.told0 (n:=99) (k:=12) (ds:=Tryz.give2.ds) (by rfl) (by decide) (by decide +kernel) hw hm hr }
def Tryz.give3:GMemo:=⟨31,12,[.agg [.sl 3 3 [.flat (.int .i64 (0)),.flat (.int .i64 (0)),.flat (.int .i64 (0)),.flat (.int .i64 (2)),.flat (.int .i64 (0)),.flat (.int .i64 (4)),.flat (.int .i64 (1)),.flat (.int .i64 (1)),.flat (.int .i64 (0))],.sl 3 3 [.flat (.int .i64 (0)),.flat (.int .i64 (1)),.flat (.int .i64 (1)),.sl 1 1 [.flat (.int .i64 (1))],.flat (.int .i64 (1)),.flat (.int .i64 (2)),.flat (.int .i64 (2)),.sl 1 1 [.flat (.int .i64 (6))],.flat (.int .i64 (0)),.flat (.int .i64 (2)),.flat (.int .i64 (1)),.sl 1 1 [.flat (.int .i64 (8))]],.sl 3 3 [.flat (.int .i64 (1)),.flat (.int .i64 (2)),.flat (.int .i64 (3))]],.sl 3 3 [.flat (.int .i64 (5)),.flat (.int .i64 (1)),.flat (.int .i64 (7)),.flat (.int .i64 (1)),.flat (.int .i64 (0)),.flat (.int .i64 (1)),.flat (.int .i64 (10)),.flat (.int .i64 (3)),.flat (.int .i64 (6)),.flat (.int .i64 (2)),.flat (.int .i64 (7)),.flat (.int .i64 (2)),.flat (.int .i64 (1)),.flat (.int .i64 (2)),.flat (.int .i64 (0)),.flat (.int .i64 (0)),.flat (.int .i64 (8)),.flat (.int .i64 (3)),.flat (.int .i64 (7)),.flat (.int .i64 (0)),.flat (.int .i64 (0)),.flat (.int .i64 (1)),.flat (.int .i64 (10)),.flat (.int .i64 (0))]],.tuple #[.agg #[.int .i64 (0),.int .i64 (0),.int .i64 (0),.int .i64 (0),.int .i64 (0),.int .i64 (0),.int .i64 (0),.int .i64 (0),.int .i64 (0),.int .i64 (0),.int .i64 (0),.int .i64 (0),.int .i64 (0),.int .i64 (0),.int .i64 (0),.int .i64 (0),.int .i64 (0),.int .i64 (0),.int .i64 (0),.int .i64 (0),.int .i64 (0),.int .i64 (0),.int .i64 (0),.int .i64 (0),.int .i64 (0),.int .i64 (0),.int .i64 (0),.int .i64 (0),.int .i64 (0),.int .i64 (0),.int .i64 (0),.int .i64 (0),.int .i64 (0),.int .i64 (0),.int .i64 (0),.int .i64 (2),.int .i64 (10),.int .i64 (3),.int .i64 (0),.int .i64 (1),.int .i64 (0),.int .i64 (0),.int .i64 (0),.int .i64 (0),.int .i64 (0),.int .i64 (0),.int .i64 (0),.int .i64 (0),.int .i64 (0),.int .i64 (0),.int .i64 (0),.int .i64 (0),.int .i64 (0),.int .i64 (0),.int .i64 (0),.int .i64 (0),.int .i64 (0),.int .i64 (0),.int .i64 (0),.int .i64 (0),.int .i64 (0),.int .i64 (0),.int .i64 (0),.int .i64 (0),.int .i64 (0),.int .i64 (0),.int .i64 (0),.int .i64 (0),.int .i64 (0),.int .i64 (0),.int .i64 (0),.int .i64 (0),.int .i64 (0),.int .i64 (0),.int .i64 (0),.int .i64 (0),.int .i64 (0),.int .i64 (0),.int .i64 (0),.int .i64 (0),.int .i64 (0),.int .i64 (0),.int .i64 (0),.int .i64 (0),.int .i64 (0),.int .i64 (0),.int .i64 (0),.int .i64 (0),.int .i64 (0),.int .i64 (0),.int .i64 (0),.int .i64 (0),.int .i64 (0),.int .i64 (0),.int .i64 (0),.int .i64 (0),.int .i64 (0),.int .i64 (0),.int .i64 (0),.int .i64 (0),.int .i64 (0),.int .i64 (0),.int .i64 (0),.int .i64 (0),.int .i64 (0),.int .i64 (0),.int .i64 (0),.int .i64 (0),.int .i64 (0),.int .i64 (0),.int .i64 (0),.int .i64 (0),.int .i64 (0),.int .i64 (0),.int .i64 (0),.int .i64 (0),.int .i64 (0),.int .i64 (0),.int .i64 (0),.int .i64 (0),.int .i64 (0),.int .i64 (0),.int .i64 (0),.int .i64 (0),.int .i64 (0),.int .i64 (0),.int .i64 (0),.int .i64 (0),.int .i64 (0),.int .i64 (0),.int .i64 (0),.int .i64 (0),.int .i64 (0),.int .i64 (0),.int .i64 (0),.int .i64 (0),.int .i64 (0),.int .i64 (0),.int .i64 (0),.int .i64 (0),.int .i64 (0),.int .i64 (0),.int .i64 (0),.int .i64 (0),.int .i64 (0),.int .i64 (0),.int .i64 (0),.int .i64 (0),.int .i64 (0),.int .i64 (0),.int .i64 (0),.int .i64 (0),.int .i64 (0),.int .i64 (0),.int .i64 (0),.int .i64 (0),.int .i64 (0),.int .i64 (0),.int .i64 (0),.int .i64 (0)],.int .i64 (3),.int .i64 (0)]⟩
theorem Tryz.give3_ok:GMemoOk Tryz.prog Tryz.give3:={
  enters:=fun args w=>Tryz.call31 args w
  flatVal:=by decide
  calls:=fun N σ w W hw args args' hm hr=>calls_give (F:=1000000) (told:=fun _ _ _=>none) Tryz.fits Tryz.mixed Tryz.told0 (n:=99) (k:=12) (ds:=Tryz.give3.ds) (by rfl) (by decide) (by decide +kernel) hw hm hr }
def Tryz.give4:GMemo:=⟨33,12,[.agg [.sl 3 3 [.flat (.int .i64 (0)),.flat (.int .i64 (0)),.flat (.int .i64 (0)),.flat (.int .i64 (2)),.flat (.int .i64 (0)),.flat (.int .i64 (4)),.flat (.int .i64 (1)),.flat (.int .i64 (1)),.flat (.int .i64 (0))],.sl 3 3 [.flat (.int .i64 (0)),.flat (.int .i64 (1)),.flat (.int .i64 (1)),.sl 1 1 [.flat (.int .i64 (1))],.flat (.int .i64 (1)),.flat (.int .i64 (2)),.flat (.int .i64 (2)),.sl 1 1 [.flat (.int .i64 (6))],.flat (.int .i64 (0)),.flat (.int .i64 (2)),.flat (.int .i64 (1)),.sl 1 1 [.flat (.int .i64 (8))]],.sl 3 3 [.flat (.int .i64 (1)),.flat (.int .i64 (2)),.flat (.int .i64 (3))]],.sl 3 3 [.flat (.int .i64 (5)),.flat (.int .i64 (1)),.flat (.int .i64 (7)),.flat (.int .i64 (1)),.flat (.int .i64 (0)),.flat (.int .i64 (1)),.flat (.int .i64 (10)),.flat (.int .i64 (3)),.flat (.int .i64 (6)),.flat (.int .i64 (2)),.flat (.int .i64 (7)),.flat (.int .i64 (2)),.flat (.int .i64 (1)),.flat (.int .i64 (2)),.flat (.int .i64 (0)),.flat (.int .i64 (0)),.flat (.int .i64 (8)),.flat (.int .i64 (3)),.flat (.int .i64 (7)),.flat (.int .i64 (0)),.flat (.int .i64 (0)),.flat (.int .i64 (1)),.flat (.int .i64 (10)),.flat (.int .i64 (0))],.flat (.int .i64 (7)),.flat (.int .i64 (5))],.tuple #[.int .i64 (1),.int .i64 (0)]⟩
theorem Tryz.give4_ok:GMemoOk Tryz.prog Tryz.give4:={
  enters:=fun args w=>Tryz.call33 args w
  flatVal:=by decide
  calls:=fun N σ w W hw args args' hm hr=>calls_give (F:=1000000) (told:=fun _ _ _=>none) Tryz.fits Tryz.mixed Tryz.told0 (n:=99) (k:=12) (ds:=Tryz.give4.ds) (by rfl) (by decide) (by decide +kernel) hw hm hr }
def Tryz.give5:GMemo:=⟨58,12,[.agg [.sl 3 3 [.flat (.int .i64 (0)),.flat (.int .i64 (0)),.flat (.int .i64 (0)),.flat (.int .i64 (2)),.flat (.int .i64 (0)),.flat (.int .i64 (4)),.flat (.int .i64 (1)),.flat (.int .i64 (1)),.flat (.int .i64 (0))],.sl 3 3 [.flat (.int .i64 (0)),.flat (.int .i64 (1)),.flat (.int .i64 (1)),.sl 1 1 [.flat (.int .i64 (1))],.flat (.int .i64 (1)),.flat (.int .i64 (2)),.flat (.int .i64 (2)),.sl 1 1 [.flat (.int .i64 (6))],.flat (.int .i64 (0)),.flat (.int .i64 (2)),.flat (.int .i64 (1)),.sl 1 1 [.flat (.int .i64 (8))]],.sl 3 3 [.flat (.int .i64 (1)),.flat (.int .i64 (2)),.flat (.int .i64 (3))]],.flat (.int .i64 (1))],.int .i64 (0)⟩
theorem Tryz.give5_ok:GMemoOk Tryz.prog Tryz.give5:={
  enters:=fun args w=>Tryz.call58 args w
  flatVal:=by decide
  calls:=fun N σ w W hw args args' hm hr=>calls_give (F:=1000000) (told:=fun _ _ _=>none) Tryz.fits Tryz.mixed Tryz.told0 (n:=99) (k:=12) (ds:=Tryz.give5.ds) (by rfl) (by decide) (by decide +kernel) hw hm hr }
def Tryz.give6:GMemo:=⟨58,12,[.agg [.sl 3 3 [.flat (.int .i64 (0)),.flat (.int .i64 (0)),.flat (.int .i64 (0)),.flat (.int .i64 (2)),.flat (.int .i64 (0)),.flat (.int .i64 (4)),.flat (.int .i64 (1)),.flat (.int .i64 (1)),.flat (.int .i64 (0))],.sl 3 3 [.flat (.int .i64 (0)),.flat (.int .i64 (1)),.flat (.int .i64 (1)),.sl 1 1 [.flat (.int .i64 (1))],.flat (.int .i64 (1)),.flat (.int .i64 (2)),.flat (.int .i64 (2)),.sl 1 1 [.flat (.int .i64 (6))],.flat (.int .i64 (0)),.flat (.int .i64 (2)),.flat (.int .i64 (1)),.sl 1 1 [.flat (.int .i64 (8))]],.sl 3 3 [.flat (.int .i64 (1)),.flat (.int .i64 (2)),.flat (.int .i64 (3))]],.flat (.int .i64 (2))],.int .i64 (0)⟩
theorem Tryz.give6_ok:GMemoOk Tryz.prog Tryz.give6:={
  enters:=fun args w=>Tryz.call58 args w
  flatVal:=by decide
  calls:=fun N σ w W hw args args' hm hr=>calls_give (F:=1000000) (told:=fun _ _ _=>none) Tryz.fits Tryz.mixed Tryz.told0 (n:=99) (k:=12) (ds:=Tryz.give6.ds) (by rfl) (by decide) (by decide +kernel) hw hm hr }
def Tryz.give7:GMemo:=⟨67,12,[.agg [.sl 3 3 [.flat (.int .i64 (0)),.flat (.int .i64 (0)),.flat (.int .i64 (0)),.flat (.int .i64 (2)),.flat (.int .i64 (0)),.flat (.int .i64 (4)),.flat (.int .i64 (1)),.flat (.int .i64 (1)),.flat (.int .i64 (0))],.sl 3 3 [.flat (.int .i64 (0)),.flat (.int .i64 (1)),.flat (.int .i64 (1)),.sl 1 1 [.flat (.int .i64 (1))],.flat (.int .i64 (1)),.flat (.int .i64 (2)),.flat (.int .i64 (2)),.sl 1 1 [.flat (.int .i64 (6))],.flat (.int .i64 (0)),.flat (.int .i64 (2)),.flat (.int .i64 (1)),.sl 1 1 [.flat (.int .i64 (8))]],.sl 3 3 [.flat (.int .i64 (1)),.flat (.int .i64 (2)),.flat (.int .i64 (3))]],.flat (.int .i64 (0)),.flat (.int .i64 (2))],.bool false⟩
theorem Tryz.give7_ok:GMemoOk Tryz.prog Tryz.give7:={
  enters:=fun args w=>Tryz.call67 args w
  flatVal:=by decide
  calls:=fun N σ w W hw args args' hm hr=>calls_give (F:=1000000) (told:=fun _ _ _=>none) Tryz.fits Tryz.mixed Tryz.told0 (n:=99) (k:=12) (ds:=Tryz.give7.ds) (by rfl) (by decide) (by decide +kernel) hw hm hr }
def Tryz.give8:GMemo:=⟨67,12,[.agg [.sl 3 3 [.flat (.int .i64 (0)),.flat (.int .i64 (0)),.flat (.int .i64 (0)),.flat (.int .i64 (2)),.flat (.int .i64 (0)),.flat (.int .i64 (4)),.flat (.int .i64 (1)),.flat (.int .i64 (1)),.flat (.int .i64 (0))],.sl 3 3 [.flat (.int .i64 (0)),.flat (.int .i64 (1)),.flat (.int .i64 (1)),.sl 1 1 [.flat (.int .i64 (1))],.flat (.int .i64 (1)),.flat (.int .i64 (2)),.flat (.int .i64 (2)),.sl 1 1 [.flat (.int .i64 (6))],.flat (.int .i64 (0)),.flat (.int .i64 (2)),.flat (.int .i64 (1)),.sl 1 1 [.flat (.int .i64 (8))]],.sl 3 3 [.flat (.int .i64 (1)),.flat (.int .i64 (2)),.flat (.int .i64 (3))]],.flat (.int .i64 (0)),.flat (.int .i64 (4))],.bool false⟩
theorem Tryz.give8_ok:GMemoOk Tryz.prog Tryz.give8:={
  enters:=fun args w=>Tryz.call67 args w
  flatVal:=by decide
  calls:=fun N σ w W hw args args' hm hr=>calls_give (F:=1000000) (told:=fun _ _ _=>none) Tryz.fits Tryz.mixed Tryz.told0 (n:=99) (k:=12) (ds:=Tryz.give8.ds) (by rfl) (by decide) (by decide +kernel) hw hm hr }
def Tryz.give9:GMemo:=⟨67,12,[.agg [.sl 3 3 [.flat (.int .i64 (0)),.flat (.int .i64 (0)),.flat (.int .i64 (0)),.flat (.int .i64 (2)),.flat (.int .i64 (0)),.flat (.int .i64 (4)),.flat (.int .i64 (1)),.flat (.int .i64 (1)),.flat (.int .i64 (0))],.sl 3 3 [.flat (.int .i64 (0)),.flat (.int .i64 (1)),.flat (.int .i64 (1)),.sl 1 1 [.flat (.int .i64 (1))],.flat (.int .i64 (1)),.flat (.int .i64 (2)),.flat (.int .i64 (2)),.sl 1 1 [.flat (.int .i64 (6))],.flat (.int .i64 (0)),.flat (.int .i64 (2)),.flat (.int .i64 (1)),.sl 1 1 [.flat (.int .i64 (8))]],.sl 3 3 [.flat (.int .i64 (1)),.flat (.int .i64 (2)),.flat (.int .i64 (3))]],.flat (.int .i64 (0)),.flat (.int .i64 (6))],.bool false⟩
theorem Tryz.give9_ok:GMemoOk Tryz.prog Tryz.give9:={
  enters:=fun args w=>Tryz.call67 args w
  flatVal:=by decide
  calls:=fun N σ w W hw args args' hm hr=>calls_give (F:=1000000) (told:=fun _ _ _=>none) Tryz.fits Tryz.mixed Tryz.told0 (n:=99) (k:=12) (ds:=Tryz.give9.ds) (by rfl) (by decide) (by decide +kernel) hw hm hr }
def Tryz.give10:GMemo:=⟨67,12,[.agg [.sl 3 3 [.flat (.int .i64 (0)),.flat (.int .i64 (0)),.flat (.int .i64 (0)),.flat (.int .i64 (2)),.flat (.int .i64 (0)),.flat (.int .i64 (4)),.flat (.int .i64 (1)),.flat (.int .i64 (1)),.flat (.int .i64 (0))],.sl 3 3 [.flat (.int .i64 (0)),.flat (.int .i64 (1)),.flat (.int .i64 (1)),.sl 1 1 [.flat (.int .i64 (1))],.flat (.int .i64 (1)),.flat (.int .i64 (2)),.flat (.int .i64 (2)),.sl 1 1 [.flat (.int .i64 (6))],.flat (.int .i64 (0)),.flat (.int .i64 (2)),.flat (.int .i64 (1)),.sl 1 1 [.flat (.int .i64 (8))]],.sl 3 3 [.flat (.int .i64 (1)),.flat (.int .i64 (2)),.flat (.int .i64 (3))]],.flat (.int .i64 (1)),.flat (.int .i64 (2))],.bool true⟩
theorem Tryz.give10_ok:GMemoOk Tryz.prog Tryz.give10:={
  enters:=fun args w=>Tryz.call67 args w
  flatVal:=by decide
  calls:=fun N σ w W hw args args' hm hr=>calls_give (F:=1000000) (told:=fun _ _ _=>none) Tryz.fits Tryz.mixed Tryz.told0 (n:=99) (k:=12) (ds:=Tryz.give10.ds) (by rfl) (by decide) (by decide +kernel) hw hm hr }
def Tryz.give11:GMemo:=⟨67,12,[.agg [.sl 3 3 [.flat (.int .i64 (0)),.flat (.int .i64 (0)),.flat (.int .i64 (0)),.flat (.int .i64 (2)),.flat (.int .i64 (0)),.flat (.int .i64 (4)),.flat (.int .i64 (1)),.flat (.int .i64 (1)),.flat (.int .i64 (0))],.sl 3 3 [.flat (.int .i64 (0)),.flat (.int .i64 (1)),.flat (.int .i64 (1)),.sl 1 1 [.flat (.int .i64 (1))],.flat (.int .i64 (1)),.flat (.int .i64 (2)),.flat (.int .i64 (2)),.sl 1 1 [.flat (.int .i64 (6))],.flat (.int .i64 (0)),.flat (.int .i64 (2)),.flat (.int .i64 (1)),.sl 1 1 [.flat (.int .i64 (8))]],.sl 3 3 [.flat (.int .i64 (1)),.flat (.int .i64 (2)),.flat (.int .i64 (3))]],.flat (.int .i64 (1)),.flat (.int .i64 (4))],.bool false⟩
theorem Tryz.give11_ok:GMemoOk Tryz.prog Tryz.give11:={
  enters:=fun args w=>Tryz.call67 args w
  flatVal:=by decide
  calls:=fun N σ w W hw args args' hm hr=>calls_give (F:=1000000) (told:=fun _ _ _=>none) Tryz.fits Tryz.mixed Tryz.told0 (n:=99) (k:=12) (ds:=Tryz.give11.ds) (by rfl) (by decide) (by decide +kernel) hw hm hr }
def Tryz.give12:GMemo:=⟨67,12,[.agg [.sl 3 3 [.flat (.int .i64 (0)),.flat (.int .i64 (0)),.flat (.int .i64 (0)),.flat (.int .i64 (2)),.flat (.int .i64 (0)),.flat (.int .i64 (4)),.flat (.int .i64 (1)),.flat (.int .i64 (1)),.flat (.int .i64 (0))],.sl 3 3 [.flat (.int .i64 (0)),.flat (.int .i64 (1)),.flat (.int .i64 (1)),.sl 1 1 [.flat (.int .i64 (1))],.flat (.int .i64 (1)),.flat (.int .i64 (2)),.flat (.int .i64 (2)),.sl 1 1 [.flat (.int .i64 (6))],.flat (.int .i64 (0)),.flat (.int .i64 (2)),.flat (.int .i64 (1)),.sl 1 1 [.flat (.int .i64 (8))]],.sl 3 3 [.flat (.int .i64 (1)),.flat (.int .i64 (2)),.flat (.int .i64 (3))]],.flat (.int .i64 (1)),.flat (.int .i64 (6))],.bool true⟩
theorem Tryz.give12_ok:GMemoOk Tryz.prog Tryz.give12:={
  enters:=fun args w=>Tryz.call67 args w
  flatVal:=by decide
  calls:=fun N σ w W hw args args' hm hr=>calls_give (F:=1000000) (told:=fun _ _ _=>none) Tryz.fits Tryz.mixed Tryz.told0 (n:=99) (k:=12) (ds:=Tryz.give12.ds) (by rfl) (by decide) (by decide +kernel) hw hm hr }
def Tryz.give13:GMemo:=⟨67,12,[.agg [.sl 3 3 [.flat (.int .i64 (0)),.flat (.int .i64 (0)),.flat (.int .i64 (0)),.flat (.int .i64 (2)),.flat (.int .i64 (0)),.flat (.int .i64 (4)),.flat (.int .i64 (1)),.flat (.int .i64 (1)),.flat (.int .i64 (0))],.sl 3 3 [.flat (.int .i64 (0)),.flat (.int .i64 (1)),.flat (.int .i64 (1)),.sl 1 1 [.flat (.int .i64 (1))],.flat (.int .i64 (1)),.flat (.int .i64 (2)),.flat (.int .i64 (2)),.sl 1 1 [.flat (.int .i64 (6))],.flat (.int .i64 (0)),.flat (.int .i64 (2)),.flat (.int .i64 (1)),.sl 1 1 [.flat (.int .i64 (8))]],.sl 3 3 [.flat (.int .i64 (1)),.flat (.int .i64 (2)),.flat (.int .i64 (3))]],.flat (.int .i64 (2)),.flat (.int .i64 (2))],.bool false⟩
theorem Tryz.give13_ok:GMemoOk Tryz.prog Tryz.give13:={
  enters:=fun args w=>Tryz.call67 args w
  flatVal:=by decide
  calls:=fun N σ w W hw args args' hm hr=>calls_give (F:=1000000) (told:=fun _ _ _=>none) Tryz.fits Tryz.mixed Tryz.told0 (n:=99) (k:=12) (ds:=Tryz.give13.ds) (by rfl) (by decide) (by decide +kernel) hw hm hr }
def Tryz.give14:GMemo:=⟨67,12,[.agg [.sl 3 3 [.flat (.int .i64 (0)),.flat (.int .i64 (0)),.flat (.int .i64 (0)),.flat (.int .i64 (2)),.flat (.int .i64 (0)),.flat (.int .i64 (4)),.flat (.int .i64 (1)),.flat (.int .i64 (1)),.flat (.int .i64 (0))],.sl 3 3 [.flat (.int .i64 (0)),.flat (.int .i64 (1)),.flat (.int .i64 (1)),.sl 1 1 [.flat (.int .i64 (1))],.flat (.int .i64 (1)),.flat (.int .i64 (2)),.flat (.int .i64 (2)),.sl 1 1 [.flat (.int .i64 (6))],.flat (.int .i64 (0)),.flat (.int .i64 (2)),.flat (.int .i64 (1)),.sl 1 1 [.flat (.int .i64 (8))]],.sl 3 3 [.flat (.int .i64 (1)),.flat (.int .i64 (2)),.flat (.int .i64 (3))]],.flat (.int .i64 (2)),.flat (.int .i64 (4))],.bool false⟩
theorem Tryz.give14_ok:GMemoOk Tryz.prog Tryz.give14:={
  enters:=fun args w=>Tryz.call67 args w
  flatVal:=by decide
  calls:=fun N σ w W hw args args' hm hr=>calls_give (F:=1000000) (told:=fun _ _ _=>none) Tryz.fits Tryz.mixed Tryz.told0 (n:=99) (k:=12) (ds:=Tryz.give14.ds) (by rfl) (by decide) (by decide +kernel) hw hm hr }
def Tryz.give15:GMemo:=⟨67,12,[.agg [.sl 3 3 [.flat (.int .i64 (0)),.flat (.int .i64 (0)),.flat (.int .i64 (0)),.flat (.int .i64 (2)),.flat (.int .i64 (0)),.flat (.int .i64 (4)),.flat (.int .i64 (1)),.flat (.int .i64 (1)),.flat (.int .i64 (0))],.sl 3 3 [.flat (.int .i64 (0)),.flat (.int .i64 (1)),.flat (.int .i64 (1)),.sl 1 1 [.flat (.int .i64 (1))],.flat (.int .i64 (1)),.flat (.int .i64 (2)),.flat (.int .i64 (2)),.sl 1 1 [.flat (.int .i64 (6))],.flat (.int .i64 (0)),.flat (.int .i64 (2)),.flat (.int .i64 (1)),.sl 1 1 [.flat (.int .i64 (8))]],.sl 3 3 [.flat (.int .i64 (1)),.flat (.int .i64 (2)),.flat (.int .i64 (3))]],.flat (.int .i64 (2)),.flat (.int .i64 (6))],.bool false⟩
theorem Tryz.give15_ok:GMemoOk Tryz.prog Tryz.give15:={
  enters:=fun args w=>Tryz.call67 args w
  flatVal:=by decide
  calls:=fun N σ w W hw args args' hm hr=>calls_give (F:=1000000) (told:=fun _ _ _=>none) Tryz.fits Tryz.mixed Tryz.told0 (n:=99) (k:=12) (ds:=Tryz.give15.ds) (by rfl) (by decide) (by decide +kernel) hw hm hr }
def Tryz.give16:GMemo:=⟨67,12,[.agg [.sl 3 3 [.flat (.int .i64 (0)),.flat (.int .i64 (0)),.flat (.int .i64 (0)),.flat (.int .i64 (2)),.flat (.int .i64 (0)),.flat (.int .i64 (4)),.flat (.int .i64 (1)),.flat (.int .i64 (1)),.flat (.int .i64 (0))],.sl 3 3 [.flat (.int .i64 (0)),.flat (.int .i64 (1)),.flat (.int .i64 (1)),.sl 1 1 [.flat (.int .i64 (1))],.flat (.int .i64 (1)),.flat (.int .i64 (2)),.flat (.int .i64 (2)),.sl 1 1 [.flat (.int .i64 (6))],.flat (.int .i64 (0)),.flat (.int .i64 (2)),.flat (.int .i64 (1)),.sl 1 1 [.flat (.int .i64 (8))]],.sl 3 3 [.flat (.int .i64 (1)),.flat (.int .i64 (2)),.flat (.int .i64 (3))]],.flat (.int .i64 (3)),.flat (.int .i64 (2))],.bool true⟩
theorem Tryz.give16_ok:GMemoOk Tryz.prog Tryz.give16:={
  enters:=fun args w=>Tryz.call67 args w
  flatVal:=by decide
  calls:=fun N σ w W hw args args' hm hr=>calls_give (F:=1000000) (told:=fun _ _ _=>none) Tryz.fits Tryz.mixed Tryz.told0 (n:=99) (k:=12) (ds:=Tryz.give16.ds) (by rfl) (by decide) (by decide +kernel) hw hm hr }
def Tryz.give17:GMemo:=⟨67,12,[.agg [.sl 3 3 [.flat (.int .i64 (0)),.flat (.int .i64 (0)),.flat (.int .i64 (0)),.flat (.int .i64 (2)),.flat (.int .i64 (0)),.flat (.int .i64 (4)),.flat (.int .i64 (1)),.flat (.int .i64 (1)),.flat (.int .i64 (0))],.sl 3 3 [.flat (.int .i64 (0)),.flat (.int .i64 (1)),.flat (.int .i64 (1)),.sl 1 1 [.flat (.int .i64 (1))],.flat (.int .i64 (1)),.flat (.int .i64 (2)),.flat (.int .i64 (2)),.sl 1 1 [.flat (.int .i64 (6))],.flat (.int .i64 (0)),.flat (.int .i64 (2)),.flat (.int .i64 (1)),.sl 1 1 [.flat (.int .i64 (8))]],.sl 3 3 [.flat (.int .i64 (1)),.flat (.int .i64 (2)),.flat (.int .i64 (3))]],.flat (.int .i64 (3)),.flat (.int .i64 (4))],.bool true⟩
theorem Tryz.give17_ok:GMemoOk Tryz.prog Tryz.give17:={
  enters:=fun args w=>Tryz.call67 args w
  flatVal:=by decide
  calls:=fun N σ w W hw args args' hm hr=>calls_give (F:=1000000) (told:=fun _ _ _=>none) Tryz.fits Tryz.mixed Tryz.told0 (n:=99) (k:=12) (ds:=Tryz.give17.ds) (by rfl) (by decide) (by decide +kernel) hw hm hr }
def Tryz.give18:GMemo:=⟨67,12,[.agg [.sl 3 3 [.flat (.int .i64 (0)),.flat (.int .i64 (0)),.flat (.int .i64 (0)),.flat (.int .i64 (2)),.flat (.int .i64 (0)),.flat (.int .i64 (4)),.flat (.int .i64 (1)),.flat (.int .i64 (1)),.flat (.int .i64 (0))],.sl 3 3 [.flat (.int .i64 (0)),.flat (.int .i64 (1)),.flat (.int .i64 (1)),.sl 1 1 [.flat (.int .i64 (1))],.flat (.int .i64 (1)),.flat (.int .i64 (2)),.flat (.int .i64 (2)),.sl 1 1 [.flat (.int .i64 (6))],.flat (.int .i64 (0)),.flat (.int .i64 (2)),.flat (.int .i64 (1)),.sl 1 1 [.flat (.int .i64 (8))]],.sl 3 3 [.flat (.int .i64 (1)),.flat (.int .i64 (2)),.flat (.int .i64 (3))]],.flat (.int .i64 (3)),.flat (.int .i64 (6))],.bool true⟩
theorem Tryz.give18_ok:GMemoOk Tryz.prog Tryz.give18:={
  enters:=fun args w=>Tryz.call67 args w
  flatVal:=by decide
  calls:=fun N σ w W hw args args' hm hr=>calls_give (F:=1000000) (told:=fun _ _ _=>none) Tryz.fits Tryz.mixed Tryz.told0 (n:=99) (k:=12) (ds:=Tryz.give18.ds) (by rfl) (by decide) (by decide +kernel) hw hm hr }
def Tryz.give19:GMemo:=⟨67,12,[.agg [.sl 3 3 [.flat (.int .i64 (0)),.flat (.int .i64 (0)),.flat (.int .i64 (0)),.flat (.int .i64 (2)),.flat (.int .i64 (0)),.flat (.int .i64 (4)),.flat (.int .i64 (1)),.flat (.int .i64 (1)),.flat (.int .i64 (0))],.sl 3 3 [.flat (.int .i64 (0)),.flat (.int .i64 (1)),.flat (.int .i64 (1)),.sl 1 1 [.flat (.int .i64 (1))],.flat (.int .i64 (1)),.flat (.int .i64 (2)),.flat (.int .i64 (2)),.sl 1 1 [.flat (.int .i64 (6))],.flat (.int .i64 (0)),.flat (.int .i64 (2)),.flat (.int .i64 (1)),.sl 1 1 [.flat (.int .i64 (8))]],.sl 3 3 [.flat (.int .i64 (1)),.flat (.int .i64 (2)),.flat (.int .i64 (3))]],.flat (.int .i64 (4)),.flat (.int .i64 (2))],.bool true⟩
theorem Tryz.give19_ok:GMemoOk Tryz.prog Tryz.give19:={
  enters:=fun args w=>Tryz.call67 args w
  flatVal:=by decide
  calls:=fun N σ w W hw args args' hm hr=>calls_give (F:=1000000) (told:=fun _ _ _=>none) Tryz.fits Tryz.mixed Tryz.told0 (n:=99) (k:=12) (ds:=Tryz.give19.ds) (by rfl) (by decide) (by decide +kernel) hw hm hr }
def Tryz.give20:GMemo:=⟨67,12,[.agg [.sl 3 3 [.flat (.int .i64 (0)),.flat (.int .i64 (0)),.flat (.int .i64 (0)),.flat (.int .i64 (2)),.flat (.int .i64 (0)),.flat (.int .i64 (4)),.flat (.int .i64 (1)),.flat (.int .i64 (1)),.flat (.int .i64 (0))],.sl 3 3 [.flat (.int .i64 (0)),.flat (.int .i64 (1)),.flat (.int .i64 (1)),.sl 1 1 [.flat (.int .i64 (1))],.flat (.int .i64 (1)),.flat (.int .i64 (2)),.flat (.int .i64 (2)),.sl 1 1 [.flat (.int .i64 (6))],.flat (.int .i64 (0)),.flat (.int .i64 (2)),.flat (.int .i64 (1)),.sl 1 1 [.flat (.int .i64 (8))]],.sl 3 3 [.flat (.int .i64 (1)),.flat (.int .i64 (2)),.flat (.int .i64 (3))]],.flat (.int .i64 (4)),.flat (.int .i64 (4))],.bool false⟩
theorem Tryz.give20_ok:GMemoOk Tryz.prog Tryz.give20:={
  enters:=fun args w=>Tryz.call67 args w
  flatVal:=by decide
  calls:=fun N σ w W hw args args' hm hr=>calls_give (F:=1000000) (told:=fun _ _ _=>none) Tryz.fits Tryz.mixed Tryz.told0 (n:=99) (k:=12) (ds:=Tryz.give20.ds) (by rfl) (by decide) (by decide +kernel) hw hm hr }
def Tryz.give21:GMemo:=⟨67,12,[.agg [.sl 3 3 [.flat (.int .i64 (0)),.flat (.int .i64 (0)),.flat (.int .i64 (0)),.flat (.int .i64 (2)),.flat (.int .i64 (0)),.flat (.int .i64 (4)),.flat (.int .i64 (1)),.flat (.int .i64 (1)),.flat (.int .i64 (0))],.sl 3 3 [.flat (.int .i64 (0)),.flat (.int .i64 (1)),.flat (.int .i64 (1)),.sl 1 1 [.flat (.int .i64 (1))],.flat (.int .i64 (1)),.flat (.int .i64 (2)),.flat (.int .i64 (2)),.sl 1 1 [.flat (.int .i64 (6))],.flat (.int .i64 (0)),.flat (.int .i64 (2)),.flat (.int .i64 (1)),.sl 1 1 [.flat (.int .i64 (8))]],.sl 3 3 [.flat (.int .i64 (1)),.flat (.int .i64 (2)),.flat (.int .i64 (3))]],.flat (.int .i64 (4)),.flat (.int .i64 (6))],.bool true⟩
theorem Tryz.give21_ok:GMemoOk Tryz.prog Tryz.give21:={
  enters:=fun args w=>Tryz.call67 args w
  flatVal:=by decide
  calls:=fun N σ w W hw args args' hm hr=>calls_give (F:=1000000) (told:=fun _ _ _=>none) Tryz.fits Tryz.mixed Tryz.told0 (n:=99) (k:=12) (ds:=Tryz.give21.ds) (by rfl) (by decide) (by decide +kernel) hw hm hr }
def Tryz.give22:GMemo:=⟨67,12,[.agg [.sl 3 3 [.flat (.int .i64 (0)),.flat (.int .i64 (0)),.flat (.int .i64 (0)),.flat (.int .i64 (2)),.flat (.int .i64 (0)),.flat (.int .i64 (4)),.flat (.int .i64 (1)),.flat (.int .i64 (1)),.flat (.int .i64 (0))],.sl 3 3 [.flat (.int .i64 (0)),.flat (.int .i64 (1)),.flat (.int .i64 (1)),.sl 1 1 [.flat (.int .i64 (1))],.flat (.int .i64 (1)),.flat (.int .i64 (2)),.flat (.int .i64 (2)),.sl 1 1 [.flat (.int .i64 (6))],.flat (.int .i64 (0)),.flat (.int .i64 (2)),.flat (.int .i64 (1)),.sl 1 1 [.flat (.int .i64 (8))]],.sl 3 3 [.flat (.int .i64 (1)),.flat (.int .i64 (2)),.flat (.int .i64 (3))]],.flat (.int .i64 (5)),.flat (.int .i64 (2))],.bool true⟩
theorem Tryz.give22_ok:GMemoOk Tryz.prog Tryz.give22:={
  enters:=fun args w=>Tryz.call67 args w
  flatVal:=by decide
  calls:=fun N σ w W hw args args' hm hr=>calls_give (F:=1000000) (told:=fun _ _ _=>none) Tryz.fits Tryz.mixed Tryz.told0 (n:=99) (k:=12) (ds:=Tryz.give22.ds) (by rfl) (by decide) (by decide +kernel) hw hm hr }
def Tryz.give23:GMemo:=⟨67,12,[.agg [.sl 3 3 [.flat (.int .i64 (0)),.flat (.int .i64 (0)),.flat (.int .i64 (0)),.flat (.int .i64 (2)),.flat (.int .i64 (0)),.flat (.int .i64 (4)),.flat (.int .i64 (1)),.flat (.int .i64 (1)),.flat (.int .i64 (0))],.sl 3 3 [.flat (.int .i64 (0)),.flat (.int .i64 (1)),.flat (.int .i64 (1)),.sl 1 1 [.flat (.int .i64 (1))],.flat (.int .i64 (1)),.flat (.int .i64 (2)),.flat (.int .i64 (2)),.sl 1 1 [.flat (.int .i64 (6))],.flat (.int .i64 (0)),.flat (.int .i64 (2)),.flat (.int .i64 (1)),.sl 1 1 [.flat (.int .i64 (8))]],.sl 3 3 [.flat (.int .i64 (1)),.flat (.int .i64 (2)),.flat (.int .i64 (3))]],.flat (.int .i64 (5)),.flat (.int .i64 (4))],.bool true⟩
theorem Tryz.give23_ok:GMemoOk Tryz.prog Tryz.give23:={
  enters:=fun args w=>Tryz.call67 args w
  flatVal:=by decide
  calls:=fun N σ w W hw args args' hm hr=>calls_give (F:=1000000) (told:=fun _ _ _=>none) Tryz.fits Tryz.mixed Tryz.told0 (n:=99) (k:=12) (ds:=Tryz.give23.ds) (by rfl) (by decide) (by decide +kernel) hw hm hr }
def Tryz.give24:GMemo:=⟨67,12,[.agg [.sl 3 3 [.flat (.int .i64 (0)),.flat (.int .i64 (0)),.flat (.int .i64 (0)),.flat (.int .i64 (2)),.flat (.int .i64 (0)),.flat (.int .i64 (4)),.flat (.int .i64 (1)),.flat (.int .i64 (1)),.flat (.int .i64 (0))],.sl 3 3 [.flat (.int .i64 (0)),.flat (.int .i64 (1)),.flat (.int .i64 (1)),.sl 1 1 [.flat (.int .i64 (1))],.flat (.int .i64 (1)),.flat (.int .i64 (2)),.flat (.int .i64 (2)),.sl 1 1 [.flat (.int .i64 (6))],.flat (.int .i64 (0)),.flat (.int .i64 (2)),.flat (.int .i64 (1)),.sl 1 1 [.flat (.int .i64 (8))]],.sl 3 3 [.flat (.int .i64 (1)),.flat (.int .i64 (2)),.flat (.int .i64 (3))]],.flat (.int .i64 (5)),.flat (.int .i64 (6))],.bool true⟩
theorem Tryz.give24_ok:GMemoOk Tryz.prog Tryz.give24:={
  enters:=fun args w=>Tryz.call67 args w
  flatVal:=by decide
  calls:=fun N σ w W hw args args' hm hr=>calls_give (F:=1000000) (told:=fun _ _ _=>none) Tryz.fits Tryz.mixed Tryz.told0 (n:=99) (k:=12) (ds:=Tryz.give24.ds) (by rfl) (by decide) (by decide +kernel) hw hm hr }
def Tryz.give25:GMemo:=⟨67,12,[.agg [.sl 3 3 [.flat (.int .i64 (0)),.flat (.int .i64 (0)),.flat (.int .i64 (0)),.flat (.int .i64 (2)),.flat (.int .i64 (0)),.flat (.int .i64 (4)),.flat (.int .i64 (1)),.flat (.int .i64 (1)),.flat (.int .i64 (0))],.sl 3 3 [.flat (.int .i64 (0)),.flat (.int .i64 (1)),.flat (.int .i64 (1)),.sl 1 1 [.flat (.int .i64 (1))],.flat (.int .i64 (1)),.flat (.int .i64 (2)),.flat (.int .i64 (2)),.sl 1 1 [.flat (.int .i64 (6))],.flat (.int .i64 (0)),.flat (.int .i64 (2)),.flat (.int .i64 (1)),.sl 1 1 [.flat (.int .i64 (8))]],.sl 3 3 [.flat (.int .i64 (1)),.flat (.int .i64 (2)),.flat (.int .i64 (3))]],.flat (.int .i64 (6)),.flat (.int .i64 (2))],.bool true⟩
theorem Tryz.give25_ok:GMemoOk Tryz.prog Tryz.give25:={
  enters:=fun args w=>Tryz.call67 args w
  flatVal:=by decide
  calls:=fun N σ w W hw args args' hm hr=>calls_give (F:=1000000) (told:=fun _ _ _=>none) Tryz.fits Tryz.mixed Tryz.told0 (n:=99) (k:=12) (ds:=Tryz.give25.ds) (by rfl) (by decide) (by decide +kernel) hw hm hr }
def Tryz.give26:GMemo:=⟨67,12,[.agg [.sl 3 3 [.flat (.int .i64 (0)),.flat (.int .i64 (0)),.flat (.int .i64 (0)),.flat (.int .i64 (2)),.flat (.int .i64 (0)),.flat (.int .i64 (4)),.flat (.int .i64 (1)),.flat (.int .i64 (1)),.flat (.int .i64 (0))],.sl 3 3 [.flat (.int .i64 (0)),.flat (.int .i64 (1)),.flat (.int .i64 (1)),.sl 1 1 [.flat (.int .i64 (1))],.flat (.int .i64 (1)),.flat (.int .i64 (2)),.flat (.int .i64 (2)),.sl 1 1 [.flat (.int .i64 (6))],.flat (.int .i64 (0)),.flat (.int .i64 (2)),.flat (.int .i64 (1)),.sl 1 1 [.flat (.int .i64 (8))]],.sl 3 3 [.flat (.int .i64 (1)),.flat (.int .i64 (2)),.flat (.int .i64 (3))]],.flat (.int .i64 (6)),.flat (.int .i64 (4))],.bool true⟩
theorem Tryz.give26_ok:GMemoOk Tryz.prog Tryz.give26:={
  enters:=fun args w=>Tryz.call67 args w
  flatVal:=by decide
  calls:=fun N σ w W hw args args' hm hr=>calls_give (F:=1000000) (told:=fun _ _ _=>none) Tryz.fits Tryz.mixed Tryz.told0 (n:=99) (k:=12) (ds:=Tryz.give26.ds) (by rfl) (by decide) (by decide +kernel) hw hm hr }
def Tryz.give27:GMemo:=⟨67,12,[.agg [.sl 3 3 [.flat (.int .i64 (0)),.flat (.int .i64 (0)),.flat (.int .i64 (0)),.flat (.int .i64 (2)),.flat (.int .i64 (0)),.flat (.int .i64 (4)),.flat (.int .i64 (1)),.flat (.int .i64 (1)),.flat (.int .i64 (0))],.sl 3 3 [.flat (.int .i64 (0)),.flat (.int .i64 (1)),.flat (.int .i64 (1)),.sl 1 1 [.flat (.int .i64 (1))],.flat (.int .i64 (1)),.flat (.int .i64 (2)),.flat (.int .i64 (2)),.sl 1 1 [.flat (.int .i64 (6))],.flat (.int .i64 (0)),.flat (.int .i64 (2)),.flat (.int .i64 (1)),.sl 1 1 [.flat (.int .i64 (8))]],.sl 3 3 [.flat (.int .i64 (1)),.flat (.int .i64 (2)),.flat (.int .i64 (3))]],.flat (.int .i64 (6)),.flat (.int .i64 (6))],.bool true⟩
theorem Tryz.give27_ok:GMemoOk Tryz.prog Tryz.give27:={
  enters:=fun args w=>Tryz.call67 args w
  flatVal:=by decide
  calls:=fun N σ w W hw args args' hm hr=>calls_give (F:=1000000) (told:=fun _ _ _=>none) Tryz.fits Tryz.mixed Tryz.told0 (n:=99) (k:=12) (ds:=Tryz.give27.ds) (by rfl) (by decide) (by decide +kernel) hw hm hr }
def Tryz.give28:GMemo:=⟨67,12,[.agg [.sl 3 3 [.flat (.int .i64 (0)),.flat (.int .i64 (0)),.flat (.int .i64 (0)),.flat (.int .i64 (2)),.flat (.int .i64 (0)),.flat (.int .i64 (4)),.flat (.int .i64 (1)),.flat (.int .i64 (1)),.flat (.int .i64 (0))],.sl 3 3 [.flat (.int .i64 (0)),.flat (.int .i64 (1)),.flat (.int .i64 (1)),.sl 1 1 [.flat (.int .i64 (1))],.flat (.int .i64 (1)),.flat (.int .i64 (2)),.flat (.int .i64 (2)),.sl 1 1 [.flat (.int .i64 (6))],.flat (.int .i64 (0)),.flat (.int .i64 (2)),.flat (.int .i64 (1)),.sl 1 1 [.flat (.int .i64 (8))]],.sl 3 3 [.flat (.int .i64 (1)),.flat (.int .i64 (2)),.flat (.int .i64 (3))]],.flat (.int .i64 (7)),.flat (.int .i64 (2))],.bool true⟩
theorem Tryz.give28_ok:GMemoOk Tryz.prog Tryz.give28:={
  enters:=fun args w=>Tryz.call67 args w
  flatVal:=by decide
  calls:=fun N σ w W hw args args' hm hr=>calls_give (F:=1000000) (told:=fun _ _ _=>none) Tryz.fits Tryz.mixed Tryz.told0 (n:=99) (k:=12) (ds:=Tryz.give28.ds) (by rfl) (by decide) (by decide +kernel) hw hm hr }
def Tryz.give29:GMemo:=⟨67,12,[.agg [.sl 3 3 [.flat (.int .i64 (0)),.flat (.int .i64 (0)),.flat (.int .i64 (0)),.flat (.int .i64 (2)),.flat (.int .i64 (0)),.flat (.int .i64 (4)),.flat (.int .i64 (1)),.flat (.int .i64 (1)),.flat (.int .i64 (0))],.sl 3 3 [.flat (.int .i64 (0)),.flat (.int .i64 (1)),.flat (.int .i64 (1)),.sl 1 1 [.flat (.int .i64 (1))],.flat (.int .i64 (1)),.flat (.int .i64 (2)),.flat (.int .i64 (2)),.sl 1 1 [.flat (.int .i64 (6))],.flat (.int .i64 (0)),.flat (.int .i64 (2)),.flat (.int .i64 (1)),.sl 1 1 [.flat (.int .i64 (8))]],.sl 3 3 [.flat (.int .i64 (1)),.flat (.int .i64 (2)),.flat (.int .i64 (3))]],.flat (.int .i64 (7)),.flat (.int .i64 (4))],.bool true⟩
theorem Tryz.give29_ok:GMemoOk Tryz.prog Tryz.give29:={
  enters:=fun args w=>Tryz.call67 args w
  flatVal:=by decide
  calls:=fun N σ w W hw args args' hm hr=>calls_give (F:=1000000) (told:=fun _ _ _=>none) Tryz.fits Tryz.mixed Tryz.told0 (n:=99) (k:=12) (ds:=Tryz.give29.ds) (by rfl) (by decide) (by decide +kernel) hw hm hr }
def Tryz.give30:GMemo:=⟨67,12,[.agg [.sl 3 3 [.flat (.int .i64 (0)),.flat (.int .i64 (0)),.flat (.int .i64 (0)),.flat (.int .i64 (2)),.flat (.int .i64 (0)),.flat (.int .i64 (4)),.flat (.int .i64 (1)),.flat (.int .i64 (1)),.flat (.int .i64 (0))],.sl 3 3 [.flat (.int .i64 (0)),.flat (.int .i64 (1)),.flat (.int .i64 (1)),.sl 1 1 [.flat (.int .i64 (1))],.flat (.int .i64 (1)),.flat (.int .i64 (2)),.flat (.int .i64 (2)),.sl 1 1 [.flat (.int .i64 (6))],.flat (.int .i64 (0)),.flat (.int .i64 (2)),.flat (.int .i64 (1)),.sl 1 1 [.flat (.int .i64 (8))]],.sl 3 3 [.flat (.int .i64 (1)),.flat (.int .i64 (2)),.flat (.int .i64 (3))]],.flat (.int .i64 (7)),.flat (.int .i64 (6))],.bool true⟩
theorem Tryz.give30_ok:GMemoOk Tryz.prog Tryz.give30:={
  enters:=fun args w=>Tryz.call67 args w
  flatVal:=by decide
  calls:=fun N σ w W hw args args' hm hr=>calls_give (F:=1000000) (told:=fun _ _ _=>none) Tryz.fits Tryz.mixed Tryz.told0 (n:=99) (k:=12) (ds:=Tryz.give30.ds) (by rfl) (by decide) (by decide +kernel) hw hm hr }
def Tryz.give31:GMemo:=⟨103,12,[.agg [.sl 3 3 [.flat (.int .i64 (0)),.flat (.int .i64 (0)),.flat (.int .i64 (0)),.flat (.int .i64 (2)),.flat (.int .i64 (0)),.flat (.int .i64 (4)),.flat (.int .i64 (1)),.flat (.int .i64 (1)),.flat (.int .i64 (0))],.sl 3 3 [.flat (.int .i64 (0)),.flat (.int .i64 (1)),.flat (.int .i64 (1)),.sl 1 1 [.flat (.int .i64 (1))],.flat (.int .i64 (1)),.flat (.int .i64 (2)),.flat (.int .i64 (2)),.sl 1 1 [.flat (.int .i64 (6))],.flat (.int .i64 (0)),.flat (.int .i64 (2)),.flat (.int .i64 (1)),.sl 1 1 [.flat (.int .i64 (8))]],.sl 3 3 [.flat (.int .i64 (1)),.flat (.int .i64 (2)),.flat (.int .i64 (3))]],.sl 2 3 [.flat (.int .i64 (5)),.flat (.int .i64 (1)),.flat (.int .i64 (7)),.flat (.int .i64 (1)),.flat (.int .i64 (0)),.flat (.int .i64 (1)),.flat (.int .i64 (10)),.flat (.int .i64 (3)),.flat (.int .i64 (6)),.flat (.int .i64 (2)),.flat (.int .i64 (7)),.flat (.int .i64 (2)),.flat (.int .i64 (1)),.flat (.int .i64 (2)),.flat (.int .i64 (0)),.flat (.int .i64 (0)),.flat (.int .i64 (8)),.flat (.int .i64 (3)),.flat (.int .i64 (7)),.flat (.int .i64 (0)),.flat (.int .i64 (0)),.flat (.int .i64 (1)),.flat (.int .i64 (10)),.flat (.int .i64 (0))]],.bool true⟩
theorem Tryz.give31_ok:GMemoOk Tryz.prog Tryz.give31:={
  enters:=fun args w=>Tryz.call103 args w
  flatVal:=by decide
  calls:=fun N σ w W hw args args' hm hr=>calls_give (F:=1000000) (told:=fun _ _ _=>none) Tryz.fits Tryz.mixed Tryz.told0 (n:=99) (k:=12) (ds:=Tryz.give31.ds) (by rfl) (by decide) (by decide +kernel) hw hm hr }
def Tryz.give32:GMemo:=⟨111,12,[.agg [.sl 3 3 [.flat (.int .i64 (0)),.flat (.int .i64 (0)),.flat (.int .i64 (0)),.flat (.int .i64 (2)),.flat (.int .i64 (0)),.flat (.int .i64 (4)),.flat (.int .i64 (1)),.flat (.int .i64 (1)),.flat (.int .i64 (0))],.sl 3 3 [.flat (.int .i64 (0)),.flat (.int .i64 (1)),.flat (.int .i64 (1)),.sl 1 1 [.flat (.int .i64 (1))],.flat (.int .i64 (1)),.flat (.int .i64 (2)),.flat (.int .i64 (2)),.sl 1 1 [.flat (.int .i64 (6))],.flat (.int .i64 (0)),.flat (.int .i64 (2)),.flat (.int .i64 (1)),.sl 1 1 [.flat (.int .i64 (8))]],.sl 3 3 [.flat (.int .i64 (1)),.flat (.int .i64 (2)),.flat (.int .i64 (3))],.flat (.int .i64 (3)),.flat (.int .i64 (1))],.agg [.flat (.int .i64 (0)),.flat (.int .i64 (1)),.flat (.int .i64 (1)),.sl 1 1 [.flat (.int .i64 (1))]]],.bool true⟩
theorem Tryz.give32_ok:GMemoOk Tryz.prog Tryz.give32:={
  enters:=fun args w=>Tryz.call111 args w
  flatVal:=by decide
  calls:=fun N σ w W hw args args' hm hr=>calls_give (F:=1000000) (told:=fun _ _ _=>none) Tryz.fits Tryz.mixed Tryz.told0 (n:=99) (k:=12) (ds:=Tryz.give32.ds) (by rfl) (by decide) (by decide +kernel) hw hm hr }
def Tryz.give33:GMemo:=⟨111,12,[.agg [.sl 3 3 [.flat (.int .i64 (0)),.flat (.int .i64 (0)),.flat (.int .i64 (0)),.flat (.int .i64 (2)),.flat (.int .i64 (0)),.flat (.int .i64 (4)),.flat (.int .i64 (1)),.flat (.int .i64 (1)),.flat (.int .i64 (0))],.sl 3 3 [.flat (.int .i64 (0)),.flat (.int .i64 (1)),.flat (.int .i64 (1)),.sl 1 1 [.flat (.int .i64 (1))],.flat (.int .i64 (1)),.flat (.int .i64 (2)),.flat (.int .i64 (2)),.sl 1 1 [.flat (.int .i64 (6))],.flat (.int .i64 (0)),.flat (.int .i64 (2)),.flat (.int .i64 (1)),.sl 1 1 [.flat (.int .i64 (8))]],.sl 3 3 [.flat (.int .i64 (1)),.flat (.int .i64 (2)),.flat (.int .i64 (3))],.flat (.int .i64 (3)),.flat (.int .i64 (1))],.agg [.flat (.int .i64 (0)),.flat (.int .i64 (2)),.flat (.int .i64 (1)),.sl 1 1 [.flat (.int .i64 (8))]]],.bool false⟩
theorem Tryz.give33_ok:GMemoOk Tryz.prog Tryz.give33:={
  enters:=fun args w=>Tryz.call111 args w
  flatVal:=by decide
  calls:=fun N σ w W hw args args' hm hr=>calls_give (F:=1000000) (told:=fun _ _ _=>none) Tryz.fits Tryz.mixed Tryz.told0 (n:=99) (k:=12) (ds:=Tryz.give33.ds) (by rfl) (by decide) (by decide +kernel) hw hm hr }
def Tryz.give34:GMemo:=⟨111,12,[.agg [.sl 3 3 [.flat (.int .i64 (0)),.flat (.int .i64 (0)),.flat (.int .i64 (0)),.flat (.int .i64 (2)),.flat (.int .i64 (0)),.flat (.int .i64 (4)),.flat (.int .i64 (1)),.flat (.int .i64 (1)),.flat (.int .i64 (0))],.sl 3 3 [.flat (.int .i64 (0)),.flat (.int .i64 (1)),.flat (.int .i64 (1)),.sl 1 1 [.flat (.int .i64 (1))],.flat (.int .i64 (1)),.flat (.int .i64 (2)),.flat (.int .i64 (2)),.sl 1 1 [.flat (.int .i64 (6))],.flat (.int .i64 (0)),.flat (.int .i64 (2)),.flat (.int .i64 (1)),.sl 1 1 [.flat (.int .i64 (8))]],.sl 3 3 [.flat (.int .i64 (1)),.flat (.int .i64 (2)),.flat (.int .i64 (3))],.flat (.int .i64 (3)),.flat (.int .i64 (3))],.agg [.flat (.int .i64 (1)),.flat (.int .i64 (2)),.flat (.int .i64 (2)),.sl 1 1 [.flat (.int .i64 (6))]]],.bool true⟩
theorem Tryz.give34_ok:GMemoOk Tryz.prog Tryz.give34:={
  enters:=fun args w=>Tryz.call111 args w
  flatVal:=by decide
  calls:=fun N σ w W hw args args' hm hr=>calls_give (F:=1000000) (told:=fun _ _ _=>none) Tryz.fits Tryz.mixed Tryz.told0 (n:=99) (k:=12) (ds:=Tryz.give34.ds) (by rfl) (by decide) (by decide +kernel) hw hm hr }
def Tryz.gives:List GMemo:=[Tryz.give0,Tryz.give1,Tryz.give2,Tryz.give3,Tryz.give4,Tryz.give5,Tryz.give6,Tryz.give7,Tryz.give8,Tryz.give9,Tryz.give10,Tryz.give11,Tryz.give12,Tryz.give13,Tryz.give14,Tryz.give15,Tryz.give16,Tryz.give17,Tryz.give18,Tryz.give19,Tryz.give20,Tryz.give21,Tryz.give22,Tryz.give23,Tryz.give24,Tryz.give25,Tryz.give26,Tryz.give27,Tryz.give28,Tryz.give29,Tryz.give30,Tryz.give31,Tryz.give32,Tryz.give33,Tryz.give34]
theorem Tryz.gives_ok:GMemosOk Tryz.prog Tryz.gives:=.cons Tryz.give0_ok (.cons Tryz.give1_ok (.cons Tryz.give2_ok (.cons Tryz.give3_ok (.cons Tryz.give4_ok (.cons Tryz.give5_ok (.cons Tryz.give6_ok (.cons Tryz.give7_ok (.cons Tryz.give8_ok (.cons Tryz.give9_ok (.cons Tryz.give10_ok (.cons Tryz.give11_ok (.cons Tryz.give12_ok (.cons Tryz.give13_ok (.cons Tryz.give14_ok (.cons Tryz.give15_ok (.cons Tryz.give16_ok (.cons Tryz.give17_ok (.cons Tryz.give18_ok (.cons Tryz.give19_ok (.cons Tryz.give20_ok (.cons Tryz.give21_ok (.cons Tryz.give22_ok (.cons Tryz.give23_ok (.cons Tryz.give24_ok (.cons Tryz.give25_ok (.cons Tryz.give26_ok (.cons Tryz.give27_ok (.cons Tryz.give28_ok (.cons Tryz.give29_ok (.cons Tryz.give30_ok (.cons Tryz.give31_ok (.cons Tryz.give32_ok (.cons Tryz.give33_ok (.cons Tryz.give34_ok (.nil)))))))))))))))))))))))))))))))))))
end Go.Proofs

namespace Go.Proofs
open Go Go.RowKit Go.Sim
set_option maxRecDepth 1000000
def Tryz.toldG:ToldF:=toldGive Tryz.gives (fun _ _ _=>none)
theorem Tryz.toldG_ok (N:Nat):ToldOk Tryz.prog N Tryz.toldG:=toldGive_ok Tryz.gives_ok Tryz.told0 N
theorem Tryz.works (W:World):Calls Tryz.prog 21 #[] W fun e W'=>e=.returned (.bool true)∧BelowD W.heap.size W W' :=
  calls_true (F:=1000000) Tryz.fits Tryz.mixed Tryz.toldG_ok (n:=99) (by decide +kernel) (by decide +kernel) W
def Tryz.T0:ToldF:=toldTrue 21 fun _ _ _=>none
theorem Tryz.toldT0 (N:Nat):ToldOk Tryz.prog N Tryz.T0:=toldTrue_ok (fun args w=>Tryz.call21 args w) Tryz.works (fun N=>fun f args w w1 v h=>by cases h) N
end Go.Proofs

namespace Go.Proofs
open Go.Shelf
def Tryz.sortL_ren:Go.Shelf.Ren:=⟨fun|6=>94|15=>116|14=>115|28=>140|29=>141|20=>132|21=>133|22=>134|23=>135|24=>136|25=>137|26=>138|27=>139|46=>154|47=>155|48=>156|49=>157|50=>158|57=>164|n=>n,fun|22=>135|24=>77|25=>139|3=>3|39=>150|0=>0|53=>167|55=>169|4=>4|46=>160|45=>159|50=>164|5=>5|9=>9|66=>182|70=>186|76=>191|77=>192|n=>n,fun|n=>n⟩
theorem Tryz.sortL:Go.Proofs.SlLaysF.n6 Tryz.prog Tryz.sortL_ren:={
  mixed:=by kernel_rfl
  f6:=⟨Tryz.f94.name,by decide,Tryz.func94.trans (congrArg some (by kernel_rfl))⟩
  f14:=⟨Tryz.f115.name,by decide,Tryz.func115.trans (congrArg some (by kernel_rfl))⟩
  f15:=Tryz.func116.trans (congrArg some (by kernel_rfl))
  f20:=⟨Tryz.f132.name,by decide,Tryz.func132.trans (congrArg some (by kernel_rfl))⟩
  f21:=⟨Tryz.f133.name,by decide,Tryz.func133.trans (congrArg some (by kernel_rfl))⟩
  f22:=⟨Tryz.f134.name,by decide,Tryz.func134.trans (congrArg some (by kernel_rfl))⟩
  f23:=⟨Tryz.f135.name,by decide,Tryz.func135.trans (congrArg some (by kernel_rfl))⟩
  f24:=⟨Tryz.f136.name,by decide,Tryz.func136.trans (congrArg some (by kernel_rfl))⟩
  f25:=⟨Tryz.f137.name,by decide,Tryz.func137.trans (congrArg some (by kernel_rfl))⟩
  f26:=⟨Tryz.f138.name,by decide,Tryz.func138.trans (congrArg some (by kernel_rfl))⟩
  f27:=⟨Tryz.f139.name,by decide,Tryz.func139.trans (congrArg some (by kernel_rfl))⟩
  f28:=Tryz.func140.trans (congrArg some (by kernel_rfl))
  f29:=Tryz.func141.trans (congrArg some (by kernel_rfl))
  f46:=⟨Tryz.f154.name,by decide,Tryz.func154.trans (congrArg some (by kernel_rfl))⟩
  f47:=Tryz.func155.trans (congrArg some (by kernel_rfl))
  f48:=Tryz.func156.trans (congrArg some (by kernel_rfl))
  f49:=⟨Tryz.f157.name,by decide,Tryz.func157.trans (congrArg some (by kernel_rfl))⟩
  f50:=⟨Tryz.f158.name,by decide,Tryz.func158.trans (congrArg some (by kernel_rfl))⟩
  f57:=⟨Tryz.f164.name,by decide,Tryz.func164.trans (congrArg some (by kernel_rfl))⟩
  t0:=Tryz.underlying0
  a0:=Tryz.isAgg0
  z0:=Tryz.sizeOf0
  v0:=Tryz.zeroValue0
  t3:=Tryz.underlying3
  a3:=Tryz.isAgg3
  z3:=Tryz.sizeOf3
  v3:=Tryz.zeroValue3
  t4:=Tryz.underlying4
  a4:=Tryz.isAgg4
  z4:=Tryz.sizeOf4
  v4:=Tryz.zeroValue4
  t5:=Tryz.underlying5
  a5:=Tryz.isAgg5
  z5:=Tryz.sizeOf5
  v5:=Tryz.zeroValue5
  t9:=Tryz.underlying9
  a9:=Tryz.isAgg9
  z9:=Tryz.sizeOf9
  v9:=Tryz.zeroValue9
  t22:=Tryz.underlying135
  a22:=Tryz.isAgg135
  z22:=Tryz.sizeOf135
  v22:=Tryz.zeroValue135
  a24:=Tryz.isAgg77
  z24:=Tryz.sizeOf77
  t25:=Tryz.underlying139
  a25:=Tryz.isAgg139
  z25:=Tryz.sizeOf139
  v25:=Tryz.zeroValue139
  t39:=Tryz.underlying150
  a39:=Tryz.isAgg150
  z39:=Tryz.sizeOf150
  v39:=Tryz.zeroValue150
  t45:=Tryz.underlying159
  a45:=Tryz.isAgg159
  z45:=Tryz.sizeOf159
  v45:=Tryz.zeroValue159
  t46:=Tryz.underlying160
  a46:=Tryz.isAgg160
  z46:=Tryz.sizeOf160
  v46:=Tryz.zeroValue160
  t50:=Tryz.underlying164
  a50:=Tryz.isAgg164
  z50:=Tryz.sizeOf164
  v50:=Tryz.zeroValue164
  t53:=Tryz.underlying167
  a53:=Tryz.isAgg167
  z53:=Tryz.sizeOf167
  v53:=Tryz.zeroValue167
  t55:=Tryz.underlying169
  a55:=Tryz.isAgg169
  z55:=Tryz.sizeOf169
  v55:=Tryz.zeroValue169
  t66:=Tryz.underlying182
  a66:=Tryz.isAgg182
  z66:=Tryz.sizeOf182
  v66:=Tryz.zeroValue182
  t70:=Tryz.underlying186
  a70:=Tryz.isAgg186
  z70:=Tryz.sizeOf186
  v70:=Tryz.zeroValue186
  t76:=Tryz.underlying191
  a76:=Tryz.isAgg191
  z76:=Tryz.sizeOf191
  v76:=Tryz.zeroValue191
  t77:=Tryz.underlying192
  a77:=Tryz.isAgg192
  z77:=Tryz.sizeOf192
  v77:=Tryz.zeroValue192 }
end Go.Proofs
namespace Go.Proofs
open Go Go.Shelf Go.RowKit Go.Lib Go.Sort Go.Sim
theorem Tryz.lens:∀ x,x < Tryz.lenTab.n→isVal (xcall (prg Tryz.prog) (xsOf (prg Tryz.prog)) (fun _ _ _=>none) 1000000 100 (.fn (.func 116) #[]) [.int .u64 (x:Int)] .empty) (Tryz.lenTab.g x)=true:=by decide +kernel
theorem Tryz.pops:∀ x,x < Tryz.popTab.n→isVal (xcall (prg Tryz.prog) (xsOf (prg Tryz.prog)) (fun _ _ _=>none) 1000000 100 (.fn (.func 98) #[]) [.int .i64 (x:Int)] .empty) (Tryz.popTab.g x)=true:=by decide +kernel
theorem Tryz.lenOk:TabOk Tryz.prog Tryz.lenTab:={
  enters:=fun args w=>Tryz.call116 args w
  flatVal:=fun _ _=>rfl
  calls:=fun x hx W=>tab_calls (F:=1000000) (n:=99) Tryz.fits Tryz.mixed Tryz.told0 (fun _=>rfl) (fun _ _=>rfl) Tryz.lens x hx W }
theorem Tryz.popOk:TabOk Tryz.prog Tryz.popTab:={
  enters:=fun args w=>Tryz.call98 args w
  flatVal:=fun _ _=>rfl
  calls:=fun x hx W=>tab_calls (F:=1000000) (n:=99) Tryz.fits Tryz.mixed Tryz.told0 (fun _=>rfl) (fun _ _=>rfl) Tryz.pops x hx W }
theorem Tryz.toldT0c (N:Nat):ToldOk Tryz.prog N Tryz.T0c:=toldTab_ok Tryz.lenOk (fun N=>toldTab_ok Tryz.popOk Tryz.toldT0 N) N
def cfV (x y:Fin 64):Int:=cmpN x.val y.val
theorem ltV (x y:Fin 64):ltOf cfV x y=decide (popN x.val < popN y.val ∨ (popN x.val=popN y.val∧x.val < y.val)):=by
  unfold ltOf cfV cmpN
  rw [decide_eq_decide]
  repeat' split
  all_goals omega
theorem swoV:SWO (ltOf cfV) where
  irrefl x:=by rw [ltV];simp
  trans x y z h1 h2:=by rw [ltV] at *;simp only [decide_eq_true_eq] at *;omega
  ntrans x y z h1 h2:=by rw [ltV] at *;simp only [decide_eq_false_iff_not] at *;omega
theorem totV (x y:Fin 64) (h1:ltOf cfV x y=false) (h2:ltOf cfV y x=false):x=y:=by
  rw [ltV] at *
  simp only [decide_eq_false_iff_not] at *
  exact Fin.ext (by omega)
theorem fresh_empty:Fresh AW.empty:=⟨fun b _=>by simp [AW.empty,AW.blk,Trie.get_leaf],fun r _=>by simp [AW.empty,AW.family,Trie.get_leaf]⟩
theorem closureV (x y:Fin 64) (W:World):Calls Tryz.prog 95 #[encF 63 x,encF 63 y] W fun e w'=>e=.returned (.int .i64 (cfV x y))∧∃ q os,w'=grow (W.drewN q) os:=by
  have h:=calls_flat Tryz.fits Tryz.mixed Tryz.toldT0c (f:=95) (l:=[encF 63 x,encF 63 y]) (v:=.int .i64 (cfV x y)) rfl rfl rfl (cmpSets_ok x.val y.val x.isLt y.isLt .empty fresh_empty) W
  exact h.mono fun e w' ⟨he,hb⟩=>⟨he,grown_of hb⟩
theorem cmpLaysV (blk off size:Nat) (w:World):CmpLays1 Tryz.prog 95 #[] (encF 63) cfV blk off size w:=fun _ _ _ _ x y=>closureV x y _
theorem Tryz.cmpOk:CmpOk2 Tryz.prog Tryz.cmpIds:={
  enters:=fun args W=>Tryz.call94 args W
  tiny:=fun p c W=>by
    have h:=AnyF.slices_SortFunc_none (P:=Tryz.prog) (ρ:=Tryz.sortL_ren) { Tryz.sortL with } p c (.func (.func 95) #[] #[]) W
    exact h
  sorts:=fun blk off c d W h1 h2 hH hblk=>by
    have hS:=Any.slices_SortFunc_total Tryz.sortL (encF 63) (fun _=>rfl) cfV swoV 95 #[] blk off c d W (fun args W=>Tryz.call95 args W) (cmpLaysV blk off d.size W) hH hblk (Nat.lt_of_le_of_lt h2 (by decide)) totV
    refine hS.mono ?_
    rintro e w' ⟨he,n,os,hw⟩
    refine ⟨he,n,os,?_⟩
    rw [hw]
    unfold sortWorld
    rfl }
theorem Tryz.toldT1 (N:Nat):ToldOk Tryz.prog N Tryz.T1:=toldSets_ok Tryz.cmpOk Tryz.toldT0c N
end Go.Proofs

namespace Go.Proofs
open Go Go.RowKit Go.Sim Go.ChangeShapes Go.WideShapes Go.ChangeAt
set_option maxRecDepth 100000
theorem Tryz.own:ownKnob Tryz.prog.godebug=none:=by kernel_rfl
theorem Tryz.laidOut:laidOutB Tryz.prog=true:=by kernel_rfl
theorem Tryz.und4:Tryz.prog.underlying 4=some .bool:=by kernel_rfl
end Go.Proofs
