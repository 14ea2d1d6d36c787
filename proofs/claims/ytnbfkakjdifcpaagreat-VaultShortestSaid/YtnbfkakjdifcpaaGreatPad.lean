/- This program: its code, contracts, numbers, part 4. -/
import Derived.Test.YtnbfkakjdifcpaaGreatPac
import Derived.Test.YtnbfkakjdifcpaaGreatPaa
import Derived.Test.YtnbfkakjdifcpaaGreatPab
import Derived.Test.YtnbfkakjdifcpaaGreatNc
set_option linter.unusedVariables false
set_option linter.unusedSimpArgs false
namespace Go.Proofs
open Go Go.RowKit Go.Sim
set_option maxRecDepth 100000
def askN (s:StrN) (x:Int):Int:=if strB s=true then (if setB s.staff.length x=true then 0 else 41) else 40
theorem askN_ok {s:StrN} {x:Int} (h:askN s x=0):strB s=true/\∃ g:Nat,x=(g:Int)/\g < 64/\g < 2 ^ s.staff.length/\∀ k,g.testBit k=true->k < s.staff.length:=by
 unfold askN at h
 split at h
 case isFalse=>cases h
 rename_i hs
 split at h
 case isFalse=>cases h
 rename_i hx
 refine⟨hs,?_⟩
 have hl:=(str_staff hs).2.1
 unfold setB fullI at hx
 have:=(inR_iff _ _ _).1 hx
 have hp:2 ^ s.staff.length≤64:=by
  have:∀ n,n≤6->2 ^ n≤64:=by decide
  exact this _ hl
 refine⟨x.toNat,by omega,by omega,by omega,fun k hk=>bit_lt (n:=s.staff.length) (x:=x.toNat) (by omega) hk⟩
def entN (s:StrN) (x:Int):Int:=if askN s x=0 then (endR s x.toNat 1:Int) else 0
def noTour:Value:=.agg #[.slice none 0 0,.slice none 0 0,.slice none 0 0,.int .i64 0,.int .i64 0]
def OpenIs (s:StrN) (pR pG pS:Option Addr) (cR cG cS:Nat) (x:Int) (v:Value):Prop :=
 (askN s x=0/\v=.tuple #[.agg (tourC pR pG pS cR cG cS s x.toNat 1).toArray,.int .i64 0]) \/ (askN s x ≠ 0/\v=.tuple #[noTour,.int .i64 (askN s x)])
theorem bld80:bldQ [(0,3),(3,1),(4,1)] [.slice none 0 0,.slice none 0 0,.slice none 0 0,.int .i64 0,.int .i64 0] []=some (.agg #[.slice none 0 0,.slice none 0 0,.slice none 0 0,.int .i64 0,.int .i64 0]):=by rfl
set_option maxHeartbeats 16000000 in
theorem open_ok (s:StrN) (pR pG pS:Option Addr) (cR cG cS:Nat) (x:Int) (w:AW) (f:Fresh w) (hA:StrAt w pR pG pS cR cG cS s) :
    CallT Tryz.prog Tryz.T1 (.fn (.func 47) #[]) #[.agg (strC pR pG pS cR cG cS s).toArray,.int .i64 x] w (fun v w'=>OpenIs s pR pG pS cR cG cS x v/\Grown w w'):=by
 have g1:=(Grown.refl f).push (.cells (strC pR pG pS cR cG cS s) 26 w.next 0 0)
 have O1:=Own.new f 26 (strC pR pG pS cR cG cS s)
 have g2:=g1.push (.cells [.slice none 0 0,.slice none 0 0,.slice none 0 0,.int .i64 0,.int .i64 0] 80 (w.next+1) 0 0)
 have O2:=Own.new g1.2 80 [.slice none 0 0,.slice none 0 0,.slice none 0 0,.int .i64 0,.int .i64 0]
 rw[AW.next_push]at O2
 have O1':=O1.push (.cells [.slice none 0 0,.slice none 0 0,.slice none 0 0,.int .i64 0,.int .i64 0] 80 (w.next+1) 0 0)
 have hl:=loadAll O1' (n:=3) rfl (by simp[strC,oneCell])
 have hch:=fun w' (g':Grown w w')=>CheckV_ok s pR pG pS cR cG cS w' g'.2 (hA.grown g')
 have hbe:=fun (g:Nat) w' (g':Grown w w')=>begin_ok s pR pG pS cR cG cS g w' g'.2
 have hak:askN s x=if strB s=true then (if setB s.staff.length x=true then 0 else 41) else 40:=rfl
 unfold strC at *
 refine callT_code rfl Tryz.func47 rfl Tryz.s47_eq rfl ?_
 delta Tryz.s47 zo zon zv zk
 simp -dsimp -implicitDefEqProofs (maxSteps:=2000000) (disch:=first|assumption|omega|simp only[nx];omega|(repeat apply zfp);assumption|simp only[smA];done|simp[oneCell,znp]) only[go_sem,hl]
 generalize (w.push (.cells [.slice pR s.rooms.length cR,.slice pG s.gates.length cG,.slice pS s.staff.length cS] 26 w.next 0 0)).push (.cells [.slice none 0 0,.slice none 0 0,.slice none 0 0,.int .i64 0,.int .i64 0] 80 (w.next+1) 0 0)=w2 at *
 apply callV_of (e:=rfl)
 . exact hch w2 g2
 rintro _ w3 ⟨rfl,g3⟩
 have gg3:=g2.trans g3
 have O13:=O1'.keep g3.1
 have O23:=O2.keep g3.1
 have c2:=O13.cell (o:=2) (v:=.slice pS s.staff.length cS) rfl rfl
 have hl3:=loadAll O13 (n:=3) rfl (by simp[oneCell])
 have hcut:∀ l:List Value,l.length=5->setsL [.slice none 0 0,.slice none 0 0,.slice none 0 0,.int .i64 0,.int .i64 0] 0 l=l:=fun l h=>by match l,h with|[a,b,c,d,e],_=>rfl
 have st0:=storeV_own (o:=0) (l:=[.slice none 0 0,.slice none 0 0,.slice none 0 0,.int .i64 0,.int .i64 0]) (size:=5) O23 rfl (by omega) (by simp) rfl
 rw[hcut _ rfl]at st0
 have m4:=MutS.put (S:=fun j=>j=w.next+1) g3.2 rfl O23.lt (.cells [.slice none 0 0,.slice none 0 0,.slice none 0 0,.int .i64 0,.int .i64 0] 80 (w.next+1) 0 0)
 have O4:=O23.put [.slice none 0 0,.slice none 0 0,.slice none 0 0,.int .i64 0,.int .i64 0]
 have g4:Grown w _:=⟨gg3.1.trans (m4.keep (B:=w.next) (fun j q=>by omega) gg3.1.next),m4.fresh⟩
 have hl4:=loadAll O4 (n:=5) rfl (by simp[oneCell])
 cases hs:strB s with
 | false =>
  rw[hs,if_neg (by intro z;cases z)]at hak
  have hE:strE s=40:=by unfold strE;rw[hs];rfl
  have h40:¬ (40:Int)=0:=by omega
  simp -dsimp -implicitDefEqProofs (maxSteps:=2000000) (disch:=first|assumption|omega|simp only[nx];omega|(repeat apply zfp);assumption|simp only[smA];done|simp[oneCell,znp]) only[go_sem,hE,h40,bld80,st0,hl4]
  exact⟨.inr ⟨by rw[hak];exact h40,by rw[hak];rfl⟩,g4⟩
 | true =>
 rw[hs,if_pos rfl]at hak
 have hE:strE s=0:=by unfold strE;rw[hs];rfl
 have hsl:=(str_staff hs).2.1
 simp -dsimp -implicitDefEqProofs (maxSteps:=2000000) (disch:=first|assumption|omega|simp only[nx];omega|(repeat apply zfp);assumption|simp only[smA];done|simp[oneCell,znp]) only[go_sem,hE,c2,Nat.zero_add]
 apply callV_of (e:=rfl)
 . exact isSet_ok (n:=s.staff.length) (by omega) x w3
 rintro _ _ ⟨rfl,rfl⟩
 cases hx:setB s.staff.length x with
 | false =>
  rw[hx,if_neg (by intro z;cases z)]at hak
  simp -dsimp -implicitDefEqProofs (maxSteps:=2000000) (disch:=first|assumption|omega|simp only[nx];omega|(repeat apply zfp);assumption|simp only[smA];done|simp[oneCell,znp]) only[go_sem,hx,bld80,st0,hl4]
  exact⟨.inr ⟨by rw[hak];omega,by rw[hak];rfl⟩,g4⟩
 | true =>
 rw[hx,if_pos rfl]at hak
 obtain⟨_,g,rfl,hg,_,hgb⟩:=askN_ok hak
 simp -dsimp -implicitDefEqProofs (maxSteps:=2000000) (disch:=first|assumption|omega|simp only[nx];omega|(repeat apply zfp);assumption|simp only[smA];done|simp[oneCell,znp]) only[go_sem,hx,hl3]
 apply callV_of (e:=rfl)
 . exact hbe g w3 gg3
 rintro _ w5 ⟨rfl,g5⟩
 have gg5:=gg3.trans g5
 have O25:=O23.keep g5.1
 have st5:=storeV_own (o:=0) (l:=tourC pR pG pS cR cG cS s g 1) (size:=5) O25 rfl (by omega) (by simp[tourC]) (by simp[tourC,oneCell])
 rw[hcut _ rfl]at st5
 have m6:=MutS.put (S:=fun j=>j=w.next+1) g5.2 rfl O25.lt (.cells (tourC pR pG pS cR cG cS s g 1) 80 (w.next+1) 0 0)
 have O6:=O25.put (tourC pR pG pS cR cG cS s g 1)
 have g6:Grown w _:=⟨gg5.1.trans (m6.keep (B:=w.next) (fun j q=>by omega) gg5.1.next),m6.fresh⟩
 have hl6:=loadAll O6 (n:=5) rfl (by simp[tourC,oneCell])
 unfold tourC at *
 simp -dsimp -implicitDefEqProofs (maxSteps:=2000000) (disch:=first|assumption|omega|simp only[nx];omega|(repeat apply zfp);assumption|simp only[smA];done|simp[oneCell,znp]) only[go_sem,st5,hl6]
 exact⟨.inl ⟨hak,rfl⟩,g6⟩
set_option maxHeartbeats 16000000 in
theorem EnterV_ok (s:StrN) (pR pG pS:Option Addr) (cR cG cS:Nat) (x:Int) (w:AW) (f:Fresh w) (hA:StrAt w pR pG pS cR cG cS s) :
    CallT Tryz.prog Tryz.T1 (.fn (.func 15) #[]) #[.agg (strC pR pG pS cR cG cS s).toArray,.int .i64 x] w (Ret (.tuple #[.int .i64 (entN s x),.int .i64 (askN s x)]) (Grown w)):=by
 have g1:=(Grown.refl f).push (.cells (strC pR pG pS cR cG cS s) 26 w.next 0 0)
 have O1:=Own.new f 26 (strC pR pG pS cR cG cS s)
 have hl1:=loadAll O1 (n:=3) rfl (by simp[strC,oneCell])
 have hop:=fun w' (g':Grown w w')=>open_ok s pR pG pS cR cG cS x w' g'.2 (hA.grown g')
 have hen:∀ g:Nat,strB s=true->g < 64->(∀ k,g.testBit k=true->k < s.staff.length)->∀ w',Grown w w'->_:=fun g hs hg hgb w' g'=>end_ok hs (g:=g) hg hgb 64 1 (by omega) (by omega) (one_bits hs) w' g'.2 (hA.grown g')
 have hcut:∀ l:List Value,l.length=5->setsL [.slice none 0 0,.slice none 0 0,.slice none 0 0,.int .i64 0,.int .i64 0] 0 l=l:=fun l h=>by match l,h with|[a,b,c,d,e],_=>rfl
 unfold strC at *
 refine callT_code rfl Tryz.func15 rfl Tryz.s15_eq rfl ?_
 delta Tryz.s15 zo zon zv zk
 simp -dsimp -implicitDefEqProofs (maxSteps:=2000000) (disch:=first|assumption|omega|simp only[nx];omega|(repeat apply zfp);assumption|simp only[smA];done|simp[oneCell,znp]) only[go_sem,hl1]
 generalize w.push (.cells [.slice pR s.rooms.length cR,.slice pG s.gates.length cG,.slice pS s.staff.length cS] 26 w.next 0 0)=w1 at *
 apply callV_of (e:=rfl)
 . exact hop w1 g1
 rintro _ w2 ⟨hv,g2⟩
 have gg2:=g1.trans g2
 have g3:=(Grown.refl gg2.2).push (.cells [.slice none 0 0,.slice none 0 0,.slice none 0 0,.int .i64 0,.int .i64 0] 80 w2.next 0 0)
 have O3:=Own.new gg2.2 80 [.slice none 0 0,.slice none 0 0,.slice none 0 0,.int .i64 0,.int .i64 0]
 rcases hv with ⟨h,rfl⟩|⟨h,rfl⟩
 . obtain⟨hs,g,rfl,hg,_,hgb⟩:=askN_ok h
   have hE:entN s (g:Int)=(endR s g 1:Int):=by unfold entN;rw[if_pos h];rfl
   rw[hE,h]
   have hin:=(endR_in hs g).1
   have st:=storeV_own (o:=0) (l:=tourC pR pG pS cR cG cS s g 1) (size:=5) O3 rfl (by omega) (by simp[tourC]) (by simp[tourC,oneCell])
   rw[hcut _ rfl]at st
   have m4:=MutS.put (S:=fun j=>j=w2.next) g3.2 rfl O3.lt (.cells (tourC pR pG pS cR cG cS s g 1) 80 w2.next 0 0)
   have O4:=O3.put (tourC pR pG pS cR cG cS s g 1)
   have g4:Grown w2 _:=⟨g3.1.trans (m4.keep (B:=w2.next) (fun j q=>by omega) g3.1.next),m4.fresh⟩
   have hl4:=loadAll O4 (n:=5) rfl (by simp[tourC,oneCell])
   have hen:=hen g hs hg hgb _ (gg2.trans g4)
   unfold tourC at *
   simp -dsimp -implicitDefEqProofs (maxSteps:=2000000) (disch:=first|assumption|omega|simp only[nx];omega|(repeat apply zfp);assumption|simp only[smA];done|simp[oneCell,znp]) only[go_sem,st,hl4,show ((g:Int)).toNat=g from rfl]
   apply callV_of (e:=rfl)
   . exact hen
   rintro _ w5 ⟨rfl,g5⟩
   simp -dsimp -implicitDefEqProofs (maxSteps:=2000000) (disch:=first|assumption|omega|simp only[nx];omega|(repeat apply zfp);assumption|simp only[smA];done|simp[oneCell,znp]) only[go_sem]
   refine⟨.int .i64 (endF s g 64 1:Int),Tryz.fd80 _ _ _ _ _ _ _ _ (by simp -dsimp -implicitDefEqProofs (maxSteps:=2000000) (disch:=first|assumption|omega|simp only[nx];omega|(repeat apply zfp);assumption|simp only[smA];done|simp[oneCell,znp]) only[go_sem];rfl) rfl,?_⟩
   simp -dsimp -implicitDefEqProofs (maxSteps:=2000000) (disch:=first|assumption|omega|simp only[nx];omega|(repeat apply zfp);assumption|simp only[smA];done|simp[oneCell,znp]) only[go_sem]
   exact⟨rfl,(gg2.trans g4).trans g5⟩
 . have hE:entN s x=0:=by unfold entN;rw[if_neg h]
   rw[hE]
   have st:=storeV_own (o:=0) (l:=[.slice none 0 0,.slice none 0 0,.slice none 0 0,.int .i64 0,.int .i64 0]) (size:=5) O3 rfl (by omega) (by simp) rfl
   rw[hcut _ rfl]at st
   have m4:=MutS.put (S:=fun j=>j=w2.next) g3.2 rfl O3.lt (.cells [.slice none 0 0,.slice none 0 0,.slice none 0 0,.int .i64 0,.int .i64 0] 80 w2.next 0 0)
   have g4:Grown w2 _:=⟨g3.1.trans (m4.keep (B:=w2.next) (fun j q=>by omega) g3.1.next),m4.fresh⟩
   unfold noTour
   simp -dsimp -implicitDefEqProofs (maxSteps:=2000000) (disch:=first|assumption|omega|simp only[nx];omega|(repeat apply zfp);assumption|simp only[smA];done|simp[oneCell,znp]) only[go_sem,st,h]
   exact⟨rfl,gg2.trans g4⟩
def roadN (s:StrN) (g:Nat):List Int->Nat->Option Nat
 | [],r=>some r
 | x :: L,r=>match stepG s g r x with
  | some gt=>roadN s g L (nextR r gt)
  | none=>none
theorem road_app {s:StrN} {g:Nat}:∀ (A B:List Int) (r:Nat),roadN s g (A++B) r=match roadN s g A r with|some q=>roadN s g B q|none=>none
 | [],B,r=>rfl
 | x :: A,B,r=>by
  rw[List.cons_append,roadN,roadN]
  cases stepG s g r x with
  | none=>rfl
  | some gt=>exact road_app A B _
def opeE (s:StrN) (x:Int) (L:List Int):Int:=if askN s x=0 then (match roadN s x.toNat L 1 with|some _=>0|none=>42) else askN s x
def opeN (s:StrN) (x:Int) (L:List Int):Nat:=if askN s x=0 then (match roadN s x.toNat L 1 with|some r=>r|none=>0) else 0
theorem stepG_is {s:StrN} {g r:Nat} {x:Int} {gt:GateN} (h:stepG s g r x=some gt):gt ∈ s.gates/\stepB s g r gt=true:=by
 unfold stepG at h
 split at h
 case isFalse=>cases h
 split at h
 case h_2=>cases h
 rename_i y hy
 split at h
 case isFalse=>cases h
 rename_i hb
 injection h with h
 subst h
 exact⟨List.mem_of_getElem? hy,hb⟩
set_option maxHeartbeats 32000000 in
theorem OpensV_ok (s:StrN) (pR pG pS:Option Addr) (cR cG cS:Nat) (x:Int) (L:List Int) (vL:Value) (w:AW) (f:Fresh w) (hA:StrAt w pR pG pS cR cG cS s) (hL:ArrOf w 1 icells vL L) :
    CallT Tryz.prog Tryz.T1 (.fn (.func 25) #[]) #[.agg (strC pR pG pS cR cG cS s).toArray,.int .i64 x,vL] w (Ret (.tuple #[.int .i64 (opeN s x L),.int .i64 (opeE s x L)]) (Grown w)):=by
 obtain⟨pL,cL,rfl,hc1,hc2,hat⟩:=hL.open
 have g1:=(Grown.refl f).push (.cells (strC pR pG pS cR cG cS s) 26 w.next 0 0)
 have O1:=Own.new f 26 (strC pR pG pS cR cG cS s)
 have hl1:=loadAll O1 (n:=3) rfl (by simp[strC,oneCell])
 have hop:=fun w' (g':Grown w w')=>open_ok s pR pG pS cR cG cS x w' g'.2 (hA.grown g')
 have hcut:∀ l:List Value,l.length=5->setsL [.slice none 0 0,.slice none 0 0,.slice none 0 0,.int .i64 0,.int .i64 0] 0 l=l:=fun l h=>by match l,h with|[a,b,c,d,e],_=>rfl
 unfold strC at *
 refine callT_code rfl Tryz.func25 rfl Tryz.s25_eq rfl ?_
 delta Tryz.s25 zo zon zv zk
 simp -dsimp -implicitDefEqProofs (maxSteps:=2000000) (disch:=first|assumption|omega|simp only[nx];omega|(repeat apply zfp);assumption|simp only[smA];done|simp[oneCell,znp]) only[go_sem,hl1]
 generalize w.push (.cells [.slice pR s.rooms.length cR,.slice pG s.gates.length cG,.slice pS s.staff.length cS] 26 w.next 0 0)=w1 at *
 apply callV_of (e:=rfl)
 . exact hop w1 g1
 rintro _ w2 ⟨hv,g2⟩
 have gg2:=g1.trans g2
 have g3:=(Grown.refl gg2.2).push (.cells [.slice none 0 0,.slice none 0 0,.slice none 0 0,.int .i64 0,.int .i64 0] 80 w2.next 0 0)
 have O3:=Own.new gg2.2 80 [.slice none 0 0,.slice none 0 0,.slice none 0 0,.int .i64 0,.int .i64 0]
 rcases hv with ⟨h,rfl⟩|⟨h,rfl⟩
 · obtain ⟨hs,g,rfl,hg,_,hgb⟩:=askN_ok h
   have hrl:s.rooms.length≤6:=by
    unfold strB roomsB at hs
    rw[Bool.and_eq_true,Bool.and_eq_true]at hs
    have:=(inR_iff _ _ _).1 hs.1.1;omega
   have hgall:∀ x ∈ s.gates,gateB s.rooms.length x=true:=by
    unfold strB gatesB at hs
    simp only[Bool.and_eq_true]at hs
    exact List.all_eq_true.1 hs.2.1.2
   have hE:opeE s (g:Int) L=match roadN s g L 1 with|some _=>0|none=>42:=by unfold opeE;rw[if_pos h];rfl
   have hN:opeN s (g:Int) L=match roadN s g L 1 with|some r=>r|none=>0:=by unfold opeN;rw[if_pos h];rfl
   rw[hE,hN]
   have st:=storeV_own (o:=0) (l:=tourC pR pG pS cR cG cS s g 1) (size:=5) O3 rfl (by omega) (by simp[tourC]) (by simp[tourC,oneCell])
   rw[hcut _ rfl]at st
   have m4:=MutS.put (S:=fun j=>j=w2.next) g3.2 rfl O3.lt (.cells (tourC pR pG pS cR cG cS s g 1) 80 w2.next 0 0)
   have O4:=O3.put (tourC pR pG pS cR cG cS s g 1)
   have g4:Grown w2 _:=⟨g3.1.trans (m4.keep (B:=w2.next) (fun j q=>by omega) g3.1.next),m4.fresh⟩
   have gg4:=gg2.trans g4
   have hstep:=fun (r:Nat) hr hrb (y:Int) w' (g':Grown w w')=>step_okV hs (g:=g) (r:=r) hg hgb hr hrb y w' g'.2 (hA.grown g')
   have hone:=one_bits hs
   have hw2:=gg2.1.next
   unfold tourC at st m4 O4 g4 gg4 hstep ⊢
   simp -dsimp -implicitDefEqProofs (maxSteps:=2000000) (disch:=first|assumption|omega|simp only[nx];omega|(repeat apply zfp);assumption|simp only[smA];done|simp[oneCell,znp]) only[go_sem,st,show ((g:Int)).toNat=g from rfl]
   generalize (w2.push (.cells [.slice none 0 0,.slice none 0 0,.slice none 0 0,.int .i64 0,.int .i64 0] 80 w2.next 0 0)).put w2.next (.cells [.slice pR s.rooms.length cR,.slice pG s.gates.length cG,.slice pS s.staff.length cS,.int .i64 (g:Int),.int .i64 ((1:Nat):Int)] 80 w2.next 0 0)=w4 at *
   refine loopR (fun k t ds w5=>∃ i:Nat,i≤L.length/\k=L.length - i/\ds=[]/\ev t (.tmp 8)=.pointer (some ⟨w2.next,0,none⟩)/\ev t (.tmp 23)=.slice pL L.length cL/\ev t (.tmp 24)=.int .i64 (L.length:Int)/\ev t (.tmp 25)=.int .i64 (i:Int)/\(∃ r,roadN s g (L.take i) 1=some r/\r < 64/\(∀ k,r.testBit k=true->k < s.rooms.length)/\Own w5 w2.next 80 [.slice pR s.rooms.length cR,.slice pG s.gates.length cG,.slice pS s.staff.length cS,.int .i64 (g:Int),.int .i64 (r:Int)]/\Grown w w5)) (L.length) ?_ ?_
   . refine⟨0,by omega,by omega,rfl,?_,?_,?_,?_,⟨1,rfl,by omega,hone,O4,gg4⟩⟩ <;> simp -dsimp -implicitDefEqProofs (maxSteps:=2000000) (disch:=first|assumption|omega|simp only[nx];omega|(repeat apply zfp);assumption|simp only[smA];done|simp[oneCell,znp]) only[go_sem] <;> rfl
   rintro k t ds w5 ⟨i,hii,rfl,rfl,e8,e23,e24,e25,hI⟩
   obtain⟨r,hrd,hr,hrb,O5,g5⟩:=hI
   by_cases hlt:(i:Int) < (L.length:Int)
   case neg =>
    obtain rfl:i=L.length:=by omega
    rw[List.take_length]at hrd
    have c4:=O5.cell (o:=4) (v:=.int .i64 (r:Int)) rfl rfl
    simp -dsimp -implicitDefEqProofs (maxSteps:=2000000) (disch:=first|assumption|omega|simp only[nx];omega|(repeat apply zfp);assumption|simp only[smA];done|simp[oneCell,znp]) only[go_sem,e8,e23,e24,e25,hlt,c4,Nat.zero_add]
    exact⟨by rw[hrd],g5⟩
   have hlt':i < L.length:=by omega
   obtain⟨b1,o1,rfl,_,hcell⟩:=hat i hlt'
   have a0:=hcell w5 g5.1 0 _ rfl
   rw[Nat.add_zero]at a0
   have hld:=loadAll O5 (n:=5) rfl (by simp[oneCell])
   have hsu:L.take (i+1)=L.take i++[L[i]]:=by rw[List.take_add_one,List.getElem?_eq_getElem hlt'];rfl
   have hsp:L=L.take i++L[i] :: L.drop (i+1):=by rw[<- List.drop_eq_getElem_cons hlt',List.take_append_drop]
   generalize hX:L[i]=X at *
   simp -dsimp -implicitDefEqProofs (maxSteps:=2000000) (disch:=first|assumption|omega|simp only[nx];omega|(repeat apply zfp);assumption|simp only[smA];done|simp[oneCell,znp]) only[go_sem,e8,e23,e24,e25,hlt,indexV_eq,a0,hld]
   apply callV_of (e:=rfl)
   . exact hstep r hr hrb X w5 g5
   rintro _ w6 ⟨rfl,g6⟩
   have O6:=O5.keep g6.1
   have g56:=g5.trans g6
   have g7:=(Grown.refl g6.2).push (.cells [.slice none 0 0,.slice none 0 0,.slice none 0 0,.int .i64 0,.int .i64 0] 80 w6.next 0 0)
   have O7:=Own.new g6.2 80 [.slice none 0 0,.slice none 0 0,.slice none 0 0,.int .i64 0,.int .i64 0]
   have hw5:=g5.1.next
   have hlt5:=O5.lt
   have hw6:=g6.1.next
   cases hq:stepG s g r X with
   | none =>
    have hF:roadN s g L 1=none:=by rw[hsp,road_app,hrd];simp only[roadN,hq]
    have st7:=storeV_own (o:=0) (l:=[.slice none 0 0,.slice none 0 0,.slice none 0 0,.int .i64 0,.int .i64 0]) (size:=5) O7 rfl (by omega) (by simp) rfl
    rw[hcut _ rfl]at st7
    have m8:=MutS.put (S:=fun j=>j=w6.next) g7.2 rfl O7.lt (.cells [.slice none 0 0,.slice none 0 0,.slice none 0 0,.int .i64 0,.int .i64 0] 80 w6.next 0 0)
    have g8:Grown w6 _:=⟨g7.1.trans (m8.keep (B:=w6.next) (fun j q=>by omega) g7.1.next),m8.fresh⟩
    unfold stepV zeroT
    simp -dsimp -implicitDefEqProofs (maxSteps:=2000000) (disch:=first|assumption|omega|simp only[nx];omega|(repeat apply zfp);assumption|simp only[smA];done|simp[oneCell,znp]) only[go_sem,e8,e23,e24,e25,st7]
    exact⟨by rw[hF];rfl,g56.trans g8⟩
   | some gt =>
    obtain⟨hm,hsb⟩:=stepG_is hq
    obtain⟨_,hr2,hrb2⟩:=next_more hsb (hgall _ hm) hrl hr hrb
    have hrd2:roadN s g (L.take (i+1)) 1=some (nextR r gt):=by rw[hsu,road_app,hrd];simp only[roadN,hq]
    have st7:=storeV_own (o:=0) (l:=[.slice pR s.rooms.length cR,.slice pG s.gates.length cG,.slice pS s.staff.length cS,.int .i64 (g:Int),.int .i64 (nextR r gt:Int)]) (size:=5) O7 rfl (by omega) (by simp) rfl
    rw[hcut _ rfl]at st7
    have m8:=MutS.put (S:=fun j=>j=w6.next) g7.2 rfl O7.lt (.cells [.slice pR s.rooms.length cR,.slice pG s.gates.length cG,.slice pS s.staff.length cS,.int .i64 (g:Int),.int .i64 (nextR r gt:Int)] 80 w6.next 0 0)
    have O8:=O7.put [.slice pR s.rooms.length cR,.slice pG s.gates.length cG,.slice pS s.staff.length cS,.int .i64 (g:Int),.int .i64 (nextR r gt:Int)]
    have g8:Grown w6 _:=⟨g7.1.trans (m8.keep (B:=w6.next) (fun j q=>by omega) g7.1.next),m8.fresh⟩
    have hld8:=loadAll O8 (n:=5) rfl (by simp[oneCell])
    have O68:=O6.keep g8.1
    have st9:=storeV_own (o:=0) (l:=[.slice pR s.rooms.length cR,.slice pG s.gates.length cG,.slice pS s.staff.length cS,.int .i64 (g:Int),.int .i64 (nextR r gt:Int)]) (size:=5) O68 rfl (by omega) (by simp) rfl
    have hcut9:setsL [.slice pR s.rooms.length cR,.slice pG s.gates.length cG,.slice pS s.staff.length cS,.int .i64 (g:Int),.int .i64 (r:Int)] 0 [.slice pR s.rooms.length cR,.slice pG s.gates.length cG,.slice pS s.staff.length cS,.int .i64 (g:Int),.int .i64 (nextR r gt:Int)]=[.slice pR s.rooms.length cR,.slice pG s.gates.length cG,.slice pS s.staff.length cS,.int .i64 (g:Int),.int .i64 (nextR r gt:Int)]:=rfl
    rw[hcut9]at st9
    have g58:=g56.trans g8
    have m9:=MutS.put (S:=fun j=>j=w2.next) g58.2 rfl O68.lt (.cells [.slice pR s.rooms.length cR,.slice pG s.gates.length cG,.slice pS s.staff.length cS,.int .i64 (g:Int),.int .i64 (nextR r gt:Int)] 80 w2.next 0 0)
    have O9:=O68.put [.slice pR s.rooms.length cR,.slice pG s.gates.length cG,.slice pS s.staff.length cS,.int .i64 (g:Int),.int .i64 (nextR r gt:Int)]
    have g9:Grown w _:=⟨g58.1.trans (m9.keep (B:=w.next) (fun j q=>by omega) g58.1.next),m9.fresh⟩
    unfold stepV tourC
    simp -dsimp -implicitDefEqProofs (maxSteps:=2000000) (disch:=first|assumption|omega|simp only[nx];omega|(repeat apply zfp);assumption|simp only[smA];done|simp[oneCell,znp]) only[go_sem,e8,e23,e24,e25,st7,hld8,st9]
    refine⟨_,by omega,i+1,by omega,rfl,rfl,by(simp only[go_sem,e8];try rfl),by(simp only[go_sem,e23];try rfl),by(simp only[go_sem,e24];try rfl),by(simp only[go_sem,e25];try rfl),⟨_,hrd2,hr2,hrb2,O9,g9⟩⟩
 . have hE:opeE s x L=askN s x:=by unfold opeE;rw[if_neg h]
   have hN:opeN s x L=0:=by unfold opeN;rw[if_neg h]
   rw[hE,hN]
   have st:=storeV_own (o:=0) (l:=[.slice none 0 0,.slice none 0 0,.slice none 0 0,.int .i64 0,.int .i64 0]) (size:=5) O3 rfl (by omega) (by simp) rfl
   rw[hcut _ rfl]at st
   have m4:=MutS.put (S:=fun j=>j=w2.next) g3.2 rfl O3.lt (.cells [.slice none 0 0,.slice none 0 0,.slice none 0 0,.int .i64 0,.int .i64 0] 80 w2.next 0 0)
   have g4:Grown w2 _:=⟨g3.1.trans (m4.keep (B:=w2.next) (fun j q=>by omega) g3.1.next),m4.fresh⟩
   unfold noTour
   simp -dsimp -implicitDefEqProofs (maxSteps:=2000000) (disch:=first|assumption|omega|simp only[nx];omega|(repeat apply zfp);assumption|simp only[smA];done|simp[oneCell,znp]) only[go_sem,st,h]
   exact⟨rfl,gg2.trans g4⟩
def firstsS {α:Type}:List Nat->List (α × Nat)->List (α × Nat)
 | _,[]=>[]
 | S,p :: L=>if p.2 ∈ S then firstsS S L else p :: firstsS (p.2 :: S) L
theorem firstsS_congr {α:Type}:∀ (L:List (α × Nat)) (S T:List Nat),(∀ r,r ∈ S↔r ∈ T)->firstsS S L=firstsS T L
 | [],_,_,_=>rfl
 | p :: L,S,T,h=>by
  rw[firstsS,firstsS]
  by_cases q:p.2 ∈ S
  . rw[if_pos q,if_pos ((h _).1 q)]
    exact firstsS_congr L S T h
  . rw[if_neg q,if_neg fun z=>q ((h _).2 z)]
    rw[firstsS_congr L (p.2 :: S) (p.2 :: T) fun r=>by simp only[List.mem_cons,h r]]
theorem firstsS_app {α:Type}:∀ (A B:List (α × Nat)) (S:List Nat),firstsS S (A++B)=firstsS S A++firstsS (A.map Prod.snd++S) B
 | [],B,S=>rfl
 | p :: A,B,S=>by
  rw[List.cons_append,firstsS,firstsS]
  by_cases q:p.2 ∈ S
  · rw [if_pos q,if_pos q,firstsS_app A B S]
    congr 1
    refine firstsS_congr _ _ _ fun r=>?_
    simp only[List.map_cons,List.cons_append,List.mem_cons,List.mem_append]
    constructor
    . intro h;exact .inr h
    . rintro (rfl|h)
      . exact .inr q
      . exact h
  · rw [if_neg q,if_neg q,firstsS_app A B (p.2 :: S),List.cons_append]
    congr 2
    refine firstsS_congr _ _ _ fun r=>?_
    simp only[List.map_cons,List.cons_append,List.mem_cons,List.mem_append]
    constructor
    . rintro (h|h|h)
      . exact .inr (.inl h)
      . exact .inl h
      . exact .inr (.inr h)
    . rintro (h|h|h)
      . exact .inr (.inl h)
      . exact .inl h
      . exact .inr (.inr h)
theorem firstsS_seen {α:Type}:∀ (L:List (α × Nat)) (S:List Nat),(∀ p ∈ L,p.2 ∈ S)->firstsS S L=[]
 | [],_,_=>rfl
 | p :: L,S,h=>by
  rw[firstsS,if_pos (h p List.mem_cons_self)]
  exact firstsS_seen L S fun q hq=>h q (List.mem_cons_of_mem _ hq)
theorem firstsS_find {α:Type} (P:Nat->Bool):∀ (L:List (α × Nat)) (S:List Nat),(∀ r ∈ S,P r=false)->(firstsS S L).find? (fun p=>P p.2)=L.find? (fun p=>P p.2)
 | [],_,_=>rfl
 | p :: L,S,h=>by
  rw[firstsS]
  by_cases q:p.2 ∈ S
  . rw[if_pos q,List.find?_cons,h _ q]
    exact firstsS_find P L S h
  · rw [if_neg q,List.find?_cons,List.find?_cons]
    cases hp:P p.2 with
    | true=>rfl
    | false =>
     exact firstsS_find P L _ fun r hr=>by
      rcases List.mem_cons.1 hr with rfl|hr
      . exact hp
      . exact h r hr
theorem firstsS_flat {α β:Type} (f:α × Nat->List (β × Nat)) (K:Nat->List Nat) (hf:∀ p,(f p).map Prod.snd=K p.2):∀ (L:List (α × Nat)) (S T:List Nat),(∀ r ∈ S,∀ k ∈ K r,k ∈ T)->firstsS T ((firstsS S L).flatMap f)=firstsS T (L.flatMap f)
 | [],_,_,_=>rfl
 | p :: L,S,T,h=>by
  rw[firstsS,List.flatMap_cons]
  by_cases q:p.2 ∈ S
  · rw [if_pos q,firstsS_app,firstsS_seen (f p) T fun x hx=>h _ q _ (by rw[<- hf];exact List.mem_map_of_mem hx),List.nil_append,firstsS_flat f K hf L S T h]
    refine firstsS_congr _ _ _ fun r=>?_
    rw[List.mem_append,hf]
    constructor
    . exact .inr
    . rintro (z|z)
      . exact h _ q _ z
      . exact z
  . rw[if_neg q,List.flatMap_cons,firstsS_app,firstsS_app (f p)]
    congr 1
    refine firstsS_flat f K hf L _ _ fun r hr k hk=>?_
    rw[List.mem_append,hf]
    rcases List.mem_cons.1 hr with rfl|hr
    . exact .inl hk
    . exact .inr (h r hr k hk)
def stepsL (s:StrN) (g:Nat) (p:List Nat × Nat):List (List Nat × Nat) :=
 (List.range s.gates.length).filterMap fun i=>match s.gates[i]? with
   | some gt=>if stepB s g p.2 gt=true then some (p.1++[i],nextR p.2 gt) else none
   | none=>none
def keysL (s:StrN) (g r:Nat):List Nat :=
 (List.range s.gates.length).filterMap fun i=>match s.gates[i]? with
   | some gt=>if stepB s g r gt=true then some (nextR r gt) else none
   | none=>none
theorem stepsL_keys (s:StrN) (g:Nat) (p:List Nat × Nat):(stepsL s g p).map Prod.snd=keysL s g p.2:=by
 unfold stepsL keysL
 rw[List.map_filterMap]
 congr 1
 funext i
 cases s.gates[i]? with
 | none=>rfl
 | some gt =>
  simp only[]
  split <;> rfl
def levelL (s:StrN) (g:Nat):Nat->List (List Nat × Nat)
 | 0=>[([],1)]
 | n+1=>(levelL s g n).flatMap (stepsL s g)
theorem mem_stepsL {s:StrN} {g:Nat} {p q:List Nat × Nat}:q ∈ stepsL s g p↔∃ i gt,s.gates[i]? = some gt/\stepB s g p.2 gt=true/\q=(p.1++[i],nextR p.2 gt):=by
 unfold stepsL
 rw[List.mem_filterMap]
 constructor
 . rintro ⟨i,_,h⟩
   split at h
   case h_2=>cases h
   rename_i gt hg
   split at h
   case isFalse=>cases h
   rename_i hb
   injection h with h
   exact⟨i,gt,hg,hb,h.symm⟩
 . rintro ⟨i,gt,hg,hb,rfl⟩
   obtain⟨hi,_⟩:=List.getElem?_eq_some_iff.1 hg
   refine⟨i,List.mem_range.2 hi,?_⟩
   simp only[hg,hb,if_true]
theorem stepG_iff {s:StrN} {g r i:Nat} {gt:GateN}:stepG s g r (i:Int)=some gt↔s.gates[i]? = some gt/\stepB s g r gt=true:=by
 constructor
 . intro h
   unfold stepG at h
   rw[if_pos (by omega),Int.toNat_natCast]at h
   split at h
   case h_2=>cases h
   rename_i y hy
   split at h
   case isFalse=>cases h
   rename_i hb
   injection h with h
   subst h
   exact⟨hy,hb⟩
 . rintro ⟨h1,h2⟩
   obtain⟨hi,rfl⟩:=List.getElem?_eq_some_iff.1 h1
   exact stepG_at hi rfl h2
theorem road_snoc {s:StrN} {g:Nat} {L:List Nat} {i r:Nat}:roadN s g (natsL (L++[i])) 1=some r↔∃ q gt,roadN s g (natsL L) 1=some q/\stepG s g q (i:Int)=some gt/\r=nextR q gt:=by
 have e:natsL (L++[i])=natsL L++[(i:Int)]:=by unfold natsL;rw[List.map_append];rfl
 rw[e,road_app]
 cases hq:roadN s g (natsL L) 1 with
 | none =>
  constructor
  . intro z;cases z
  . rintro ⟨q,gt,z,_⟩;cases z
 | some q =>
  simp only[roadN]
  constructor
  . intro z
    split at z
    case h_2=>cases z
    rename_i gt hg
    injection z with z
    exact⟨q,gt,rfl,hg,z.symm⟩
  . rintro ⟨q',gt,z,hg,rfl⟩
    injection z with z
    subst z
    rw[hg]
theorem level_road {s:StrN} {g:Nat}:∀ {n:Nat} {l:List Nat} {r:Nat},(l,r) ∈ levelL s g n↔l.length=n/\roadN s g (natsL l) 1=some r
 | 0, l,r=>by
  unfold levelL
  rw[List.mem_singleton]
  constructor
  . intro h
    injection h with h1 h2
    subst h1 h2
    exact⟨rfl,rfl⟩
  . rintro ⟨h1,h2⟩
    obtain rfl:=List.eq_nil_of_length_eq_zero h1
    injection h2 with h2
    rw[<- h2]
 | n + 1,l,r=>by
  unfold levelL
  rw[List.mem_flatMap]
  constructor
  . rintro ⟨⟨l',r'⟩,hm,hs⟩
    obtain⟨i,gt,hg,hb,he⟩:=mem_stepsL.1 hs
    injection he with h1 h2
    subst h1 h2
    obtain⟨hl,hr⟩:=level_road.1 hm
    exact⟨by rw[List.length_append,hl];rfl,road_snoc.2 ⟨_,_,hr,stepG_iff.2 ⟨hg,hb⟩,rfl⟩⟩
  · rintro ⟨hl,hr⟩
    obtain ⟨L,i,rfl⟩:∃ L i,l=L++[i]:=by
     rcases List.eq_nil_or_concat l with rfl|⟨L,i,h⟩
     . cases hl
     . exact⟨L,i,by rw[h];simp⟩
    rw[List.length_append,List.length_singleton]at hl
    obtain⟨q,gt,h1,h2,rfl⟩:=road_snoc.1 hr
    exact⟨(L,q),level_road.2 ⟨by omega,h1⟩,mem_stepsL.2 ⟨i,gt,(stepG_iff.1 h2).1,(stepG_iff.1 h2).2,rfl⟩⟩
def sizeR (r:Nat):Nat:=((List.range 6).filter r.testBit).length
theorem size_more:∀ r,r < 64->∀ A,A < 6->∀ B,B < 6->(r.testBit A != r.testBit B)=true->sizeR (r ||| (2 ^ A ||| 2 ^ B))=sizeR r+1:=by decide +kernel
theorem size_le:∀ n,n≤6->∀ r,r < 64->(∀ k,k < 6->r.testBit k=true->k < n)->sizeR r≤n:=by decide +kernel
theorem level_size {s:StrN} (hs:strB s=true) {g:Nat}:∀ {n:Nat} {l:List Nat} {r:Nat},(l,r) ∈ levelL s g n->sizeR r=n+1/\r < 64/\∀ k,r.testBit k=true->k < s.rooms.length
 | 0,l,r,h=>by
  unfold levelL at h
  rw[List.mem_singleton]at h
  injection h with h1 h2
  subst h1 h2
  exact⟨by decide,by omega,one_bits hs⟩
 | n + 1,l,r,h=>by
  unfold levelL at h
  rw[List.mem_flatMap]at h
  obtain⟨⟨l',r'⟩,hm,hst⟩:=h
  obtain⟨i,gt,hg,hb,he⟩:=mem_stepsL.1 hst
  injection he with h1 h2
  subst h1 h2
  obtain⟨hz,hr,hrb⟩:=level_size hs hm
  have hgt:=(str_gates hs).2 _ (List.mem_of_getElem? hg)
  have hrl:=(str_rooms hs).2
  obtain⟨_,hr2,hrb2⟩:=next_more hb hgt hrl hr hrb
  obtain⟨⟨_,hA⟩,_,hB⟩:=gate_fit hgt hrl
  have hne:(r'.testBit gt.A.toNat != r'.testBit gt.B.toNat)=true:=by
   have hb':stepB s g r' gt=true:=hb
   unfold stepB at hb'
   rw[Bool.and_eq_true]at hb'
   exact hb'.1
  have:=size_more r' hr gt.A.toNat (by omega) gt.B.toNat (by omega) hne
  exact⟨by show sizeR (nextR r' gt)=_;unfold nextR;omega,hr2,hrb2⟩
theorem level_none {s:StrN} (hs:strB s=true) {g n:Nat} (hn:s.rooms.length≤n):levelL s g n=[]:=by
 rcases List.eq_nil_or_concat (levelL s g n)with h|⟨L,⟨l,r⟩,h⟩
 . exact h
 . exfalso
   obtain⟨hz,hr,hrb⟩:=level_size hs (g:=g) (n:=n) (l:=l) (r:=r) (by rw[h];simp)
   have:=size_le _ (str_rooms hs).2 r hr fun k _ hk=>hrb k hk
   omega
def under (s:StrN) (g:Nat):Nat->List Nat × Nat->List (List Nat × Nat)
 | 0,p=>[p]
 | n+1,p=>(stepsL s g p).flatMap (under s g n)
theorem under_snoc (s:StrN) (g:Nat):∀ (n:Nat) (p:List Nat × Nat),(under s g n p).flatMap (stepsL s g)=under s g (n+1) p
 | 0,p=>by
  show [p].flatMap (stepsL s g)=(stepsL s g p).flatMap (fun q=>[q])
  simp
 | n+1,p=>by
  show ((stepsL s g p).flatMap (under s g n)).flatMap (stepsL s g)=(stepsL s g p).flatMap (under s g (n+1))
  rw[List.flatMap_assoc]
  congr 1
  funext q
  exact under_snoc s g n q
theorem level_under (s:StrN) (g:Nat):∀ n,levelL s g n=under s g n ([],1)
 | 0=>rfl
 | n+1=>by
  rw[<- under_snoc,<- level_under s g n]
  rfl
def seekW (s:StrN) (g room n:Nat) (p:List Nat × Nat):Option (List Nat × Nat):=(under s g n p).find? fun q=>q.2.testBit room
def wayTo (s:StrN) (g room:Nat):Nat->Option (List Nat × Nat)
 | 0=>none
 | n+1=>match wayTo s g room n with
  | some q=>some q
  | none=>seekW s g room n ([],1)
theorem firsts_level (s:StrN) (g n:Nat):firstsS [] ((firstsS [] (levelL s g n)).flatMap (stepsL s g))=firstsS [] (levelL s g (n+1)) :=
 firstsS_flat (stepsL s g) (keysL s g) (stepsL_keys s g) _ [] [] fun r h=>by cases h
theorem firsts_next (s:StrN) (g n:Nat) (P:Nat->Bool):((firstsS [] (levelL s g n)).flatMap (stepsL s g)).find? (fun p=>P p.2)=(levelL s g (n+1)).find? (fun p=>P p.2):=by
 rw[<- firstsS_find P _ [] (fun r h=>by cases h),firsts_level,firstsS_find P _ [] (fun r h=>by cases h)]
abbrev Ways:=List (List Nat × Nat)
def stepsTo (s:StrN) (g i:Nat) (p:List Nat × Nat):Ways :=
 (List.range i).filterMap fun i=>match s.gates[i]? with
   | some gt=>if stepB s g p.2 gt=true then some (p.1++[i],nextR p.2 gt) else none
   | none=>none
theorem stepsTo_all (s:StrN) (g:Nat) (p:List Nat × Nat):stepsTo s g s.gates.length p=stepsL s g p:=rfl
theorem stepsTo_more {s:StrN} {g i:Nat} {p:List Nat × Nat} (h:i < s.gates.length) (hb:stepB s g p.2 s.gates[i]=true):stepsTo s g (i+1) p=stepsTo s g i p++[(p.1++[i],nextR p.2 s.gates[i])]:=by
 unfold stepsTo
 rw[List.range_succ,List.filterMap_append]
 congr 1
 rw[List.filterMap_cons,List.getElem?_eq_getElem h]
 simp only[hb,if_true,List.filterMap_nil]
theorem stepsTo_skip {s:StrN} {g i:Nat} {p:List Nat × Nat} (h:i < s.gates.length) (hb:stepB s g p.2 s.gates[i]=false):stepsTo s g (i+1) p=stepsTo s g i p:=by
 unfold stepsTo
 rw[List.range_succ,List.filterMap_append]
 rw[List.filterMap_cons,List.getElem?_eq_getElem h]
 simp only[hb,Bool.false_eq_true,if_false,List.filterMap_nil,List.append_nil]
theorem stepsTo_sub {s:StrN} {g i:Nat} {p q:List Nat × Nat} (hi:i≤s.gates.length) (h:q ∈ stepsTo s g i p):q ∈ stepsL s g p:=by
 unfold stepsTo at h
 unfold stepsL
 rw[List.mem_filterMap]at h ⊢
 obtain⟨j,hj,h⟩:=h
 exact⟨j,List.mem_range.2 (by have:=List.mem_range.1 hj;omega),h⟩
theorem stepsL_split {s:StrN} {g i:Nat} {p:List Nat × Nat} (hi:i < s.gates.length) (hb:stepB s g p.2 s.gates[i]=true):∃ R,stepsL s g p=stepsTo s g i p++((p.1++[i],nextR p.2 s.gates[i]) :: R):=by
 have hr:List.range s.gates.length=List.range i++(i :: List.range' (i+1) (s.gates.length - (i+1))):=by
  rw[List.range_eq_range',List.range_eq_range',show s.gates.length=i+((s.gates.length - (i+1))+1)from by omega,<- List.range'_append_1,Nat.zero_add]
  rw[List.range'_succ]
  congr 3
  omega
 unfold stepsL stepsTo
 rw[hr,List.filterMap_append,List.filterMap_cons,List.getElem?_eq_getElem hi]
 simp only[hb,if_true]
 exact⟨_,rfl⟩
theorem firstsS_sub {α:Type}:∀ (L:List (α × Nat)) (S:List Nat) (p:α × Nat),p ∈ firstsS S L->p ∈ L
 | [],_,_,h=>h
 | q :: L,S,p,h=>by
  rw[firstsS]at h
  split at h
  . exact List.mem_cons_of_mem _ (firstsS_sub L S p h)
  . rcases List.mem_cons.1 h with rfl|h
    . exact List.mem_cons_self
    . exact List.mem_cons_of_mem _ (firstsS_sub L _ p h)
theorem firstsS_snoc {α:Type} (X:List (α × Nat)) (q:α × Nat):firstsS [] (X++[q])=if q.2 ∈ X.map Prod.snd then firstsS [] X else firstsS [] X++[q]:=by
 rw[firstsS_app,List.append_nil,firstsS,firstsS]
 split
 . rw[List.append_nil]
 . rfl
def cntS (S:List Nat) (n:Nat):Nat:=((List.range n).filter fun k=>decide (k ∈ S)).length
theorem filter_more {R:List Nat} {P P':Nat->Bool} {x:Nat} (h:∀ k,P k=true->P' k=true) (hx:x ∈ R) (h1:P x=false) (h2:P' x=true):(R.filter P).length+1≤(R.filter P').length:=by
 induction R with
 | nil=>cases hx
 | cons y R ih =>
  have hsub:∀ R:List Nat,(R.filter P).length≤(R.filter P').length:=fun R=>by
   induction R with
   | nil=>exact Nat.le_refl _
   | cons z R ih2 =>
    rw[List.filter_cons,List.filter_cons]
    by_cases q:P z=true
    . rw[if_pos q,if_pos (h z q),List.length_cons,List.length_cons];omega
    . rw[if_neg q]
      split
      . rw[List.length_cons];omega
      . exact ih2
  rw[List.filter_cons,List.filter_cons]
  by_cases hy:x=y
  . subst hy
    rw[if_neg (by rw[h1];intro z;cases z),if_pos h2,List.length_cons]
    exact Nat.succ_le_succ (hsub R)
  · have hx':x ∈ R:=(List.mem_cons.1 hx).resolve_left hy
    have:=ih hx'
    by_cases q:P y=true
    . rw[if_pos q,if_pos (h y q),List.length_cons,List.length_cons];omega
    . rw[if_neg q]
      split
      . rw[List.length_cons];omega
      . exact this
theorem firstsS_len {α:Type} (n:Nat):∀ (L:List (α × Nat)) (S:List Nat),(∀ p ∈ L,p.2 < n)->(firstsS S L).length+cntS S n≤n
 | [],S,_=>by
  unfold cntS
  have:=List.length_filter_le (fun k=>decide (k ∈ S)) (List.range n)
  rw[List.length_range]at this
  rw[firstsS,List.length_nil];omega
 | p :: L,S,h=>by
  rw[firstsS]
  split
  . exact firstsS_len n L S fun q hq=>h q (List.mem_cons_of_mem _ hq)
  . rename_i hn
    have h1:=firstsS_len n L (p.2 :: S) fun q hq=>h q (List.mem_cons_of_mem _ hq)
    have h2:cntS S n+1≤cntS (p.2 :: S) n:=filter_more (x:=p.2) (fun k hk=>decide_eq_true (List.mem_cons_of_mem _ (of_decide_eq_true hk))) (List.mem_range.2 (h p List.mem_cons_self)) (decide_eq_false hn) (decide_eq_true List.mem_cons_self)
    rw[List.length_cons];omega
theorem wayTo_none {s:StrN} {g room:Nat}:∀ {N:Nat},(∀ m,m < N->∀ p ∈ levelL s g m,p.2.testBit room=false)->wayTo s g room N=none
 | 0,_=>rfl
 | N+1,h=>by
  rw[wayTo,wayTo_none fun m hm=>h m (by omega)]
  show seekW s g room N ([],1)=none
  unfold seekW
  rw[<- level_under]
  rw[List.find?_eq_none]
  intro p hp z
  rw[h N (by omega) p hp]at z
  cases z
theorem wayTo_some {s:StrN} {g room n:Nat} {q:List Nat × Nat} (hn:∀ m,m < n->∀ p ∈ levelL s g m,p.2.testBit room=false) (hq:(levelL s g n).find? (fun p=>p.2.testBit room)=some q):∀ {N:Nat},n < N->wayTo s g room N=some q
 | 0,h=>by omega
 | N + 1,h=>by
  by_cases e:n=N
  . subst e
    rw[wayTo,wayTo_none hn]
    show seekW s g room n ([],1)=some q
    unfold seekW
    rw[<- level_under,hq]
  . rw[wayTo,wayTo_some hn hq (by omega)]
abbrev F1 (s:StrN) (g n:Nat):Ways:=firstsS [] (levelL s g n)
def tailF (s:StrN) (g:Nat):Nat->Nat->Nat
 | 0,_=>0
 | d+1,n=>(F1 s g n).length+tailF s g d (n+1)
structure TopW (s:StrN) (g room n:Nat) (A B:Ways) (S:List Nat) (Q:Ways):Prop where
 lev:F1 s g n=A++B
 que:Q=B++firstsS [] (A.flatMap (stepsL s g))
 seen:∀ r,n+2≤sizeR r->(r ∈ S↔r ∈ (A.flatMap (stepsL s g)).map Prod.snd)
 no:∀ m,m≤n->∀ p ∈ levelL s g m,p.2.testBit room=false
 nox:∀ p ∈ A.flatMap (stepsL s g),p.2.testBit room=false
structure MidW (s:StrN) (g room n:Nat) (A:Ways) (p:List Nat × Nat) (B:Ways) (i:Nat) (S:List Nat) (Q:Ways):Prop where
 lev:F1 s g n=A++p :: B
 que:Q=B++firstsS [] (A.flatMap (stepsL s g)++stepsTo s g i p)
 seen:∀ r,n+2≤sizeR r->(r ∈ S↔r ∈ (A.flatMap (stepsL s g)++stepsTo s g i p).map Prod.snd)
 no:∀ m,m≤n->∀ p ∈ levelL s g m,p.2.testBit room=false
 nox:∀ q ∈ A.flatMap (stepsL s g)++stepsTo s g i p,q.2.testBit room=false
def seeS (S:List Nat) (r:Nat):List Nat:=if r ∈ S then S else S++[r]
def seeQ (S:List Nat) (Q:Ways) (q:List Nat × Nat):Ways:=if q.2 ∈ S then Q else Q++[q]
section
variable {s:StrN} {g room n:Nat} {A B:Ways} {p:List Nat × Nat} {S:List Nat} {Q:Ways} {i:Nat}
theorem TopW.mid (h:TopW s g room n A (p :: B) S (p :: Q)):MidW s g room n A p B 0 S Q:=by
 have e:stepsTo s g 0 p=[]:=rfl
 have hq:=h.que
 rw[List.cons_append]at hq
 injection hq with _ hq
 exact⟨h.lev,by rw[e,List.append_nil];exact hq,by rw[e,List.append_nil];exact h.seen,h.no,by rw[e,List.append_nil];exact h.nox⟩
theorem MidW.skip (h:MidW s g room n A p B i S Q) (hi:i < s.gates.length) (hb:stepB s g p.2 s.gates[i]=false):MidW s g room n A p B (i+1) S Q:=by
 have e:=stepsTo_skip hi hb
 exact⟨h.lev,by rw[e];exact h.que,by rw[e];exact h.seen,h.no,by rw[e];exact h.nox⟩
theorem MidW.mem (h:MidW s g room n A p B i S Q):p ∈ levelL s g n:=firstsS_sub _ [] _ (by have:=h.lev;rw[show firstsS [] (levelL s g n)=A++p :: B from this];exact List.mem_append_right _ List.mem_cons_self)
theorem MidW.add (h:MidW s g room n A p B i S Q) (hs:strB s=true) (hi:i < s.gates.length) (hb:stepB s g p.2 s.gates[i]=true) (hno:(nextR p.2 s.gates[i]).testBit room=false) :
    MidW s g room n A p B (i+1) (seeS S (nextR p.2 s.gates[i])) (seeQ S Q (p.1++[i],nextR p.2 s.gates[i])):=by
 have e:=stepsTo_more hi hb
 have hst:(p.1++[i],nextR p.2 s.gates[i]) ∈ levelL s g (n+1):=by
  show _ ∈ (levelL s g n).flatMap (stepsL s g)
  exact List.mem_flatMap.2 ⟨p,h.mem,mem_stepsL.2 ⟨i,_,List.getElem?_eq_getElem hi,hb,rfl⟩⟩
 have hz:=(level_size hs hst).1
 have hse:=h.seen (nextR p.2 s.gates[i]) (by omega)
 refine⟨h.lev,?_,?_,h.no,?_⟩
 . rw[e,<- List.append_assoc,firstsS_snoc]
   show seeQ S Q (p.1++[i],nextR p.2 s.gates[i])=_
   unfold seeQ
   by_cases q:nextR p.2 s.gates[i] ∈ S
   . rw[if_pos q,if_pos (hse.1 q)];exact h.que
   . rw[if_neg q,if_neg fun z=>q (hse.2 z),h.que,List.append_assoc]
 · intro r hr
   rw[e,<- List.append_assoc,List.map_append,List.mem_append,<- h.seen r hr]
   unfold seeS
   simp only[List.map_cons,List.map_nil,List.mem_singleton]
   split
   · rename_i q
     constructor
     . exact .inl
     . rintro (z|rfl)
       . exact z
       . exact q
   . rw[List.mem_append,List.mem_singleton]
 . intro q hq
   rw[e,<- List.append_assoc,List.mem_append]at hq
   rcases hq with hq|hq
   . exact h.nox q hq
   . rw[List.mem_singleton.1 hq];exact hno
theorem MidW.top (h:MidW s g room n A p B s.gates.length S Q):TopW s g room n (A++[p]) B S Q:=by
 have e:(A++[p]).flatMap (stepsL s g)=A.flatMap (stepsL s g)++stepsTo s g s.gates.length p:=by
  rw[List.flatMap_append,stepsTo_all];simp
 exact⟨by rw[h.lev];simp,by rw[e];exact h.que,by rw[e];exact h.seen,h.no,by rw[e];exact h.nox⟩
theorem find_none {P:Nat->Bool} {L:Ways} (h:∀ p ∈ L,P p.2=false):L.find? (fun p=>P p.2)=none:=by
 rw[List.find?_eq_none]
 intro p hp z
 rw[h p hp]at z
 cases z
theorem MidW.found (h:MidW s g room n A p B i S Q) (hs:strB s=true) (hi:i < s.gates.length) (hb:stepB s g p.2 s.gates[i]=true) (hyes:(nextR p.2 s.gates[i]).testBit room=true) :
    wayTo s g room s.rooms.length=some (p.1++[i],nextR p.2 s.gates[i]):=by
 have hf:=firsts_next s g n fun r=>r.testBit room
 have hfind:((F1 s g n).flatMap (stepsL s g)).find? (fun p=>p.2.testBit room)=some (p.1++[i],nextR p.2 s.gates[i]):=by
  have e:(F1 s g n).flatMap (stepsL s g)=A.flatMap (stepsL s g)++(stepsL s g p++B.flatMap (stepsL s g)):=by
   rw[h.lev,List.flatMap_append,List.flatMap_cons]
  obtain⟨R,hst⟩:=stepsL_split hi hb
  have hnx:=h.nox
  rw[e,List.find?_append,find_none (P:=fun r=>r.testBit room) fun q hq=>hnx q (List.mem_append_left _ hq),hst,List.append_assoc,List.find?_append,find_none (P:=fun r=>r.testBit room) fun q hq=>hnx q (List.mem_append_right _ hq)]
  simp only[List.cons_append,List.find?_cons,hyes,Option.none_or]
 rw[show firstsS [] (levelL s g n)=F1 s g n from rfl,hfind]at hf
 refine wayTo_some (n:=n+1) (fun m hm=>h.no m (by omega)) hf.symm ?_
 rcases Nat.lt_or_ge (n+1) s.rooms.length with q|q
 . exact q
 . rw[level_none hs q]at hf
   cases hf
theorem TopW.next (h:TopW s g room n A [] S Q) (hs:strB s=true):TopW s g room (n+1) [] (F1 s g (n+1)) S Q:=by
 have hA:F1 s g n=A:=by rw[h.lev,List.append_nil]
 have hf:=firsts_level s g n
 rw[show firstsS [] (levelL s g n)=A from hA]at hf
 refine⟨rfl,?_,fun r hr=>?_,fun m hm p hp=>?_,fun p hp=>?_⟩
 . rw[h.que,List.nil_append,hf]
   exact (List.append_nil _).symm
 · rw [h.seen r (by omega)]
   constructor
   . intro z
     exfalso
     obtain⟨q,hq,rfl⟩:=List.mem_map.1 z
     obtain⟨p,hp,hq⟩:=List.mem_flatMap.1 hq
     have hp':p ∈ levelL s g n:=firstsS_sub _ [] _ (by rw[show firstsS [] (levelL s g n)=A from hA];exact hp)
     have:=(level_size hs (l:=q.1) (r:=q.2) (n:=n+1) (List.mem_flatMap.2 ⟨p,hp',hq⟩)).1
     omega
   . intro z;cases z
 · rcases Nat.lt_or_ge n m with q|q
   . obtain rfl:m=n+1:=by omega
     have h2:=firsts_next s g n fun r=>r.testBit room
     rw[show firstsS [] (levelL s g n)=A from hA,find_none (P:=fun r=>r.testBit room) h.nox]at h2
     have:=List.find?_eq_none.1 h2.symm p hp
     exact Bool.eq_false_iff.2 this
   . exact h.no m q p hp
 . cases hp
theorem TopW.pop (h:TopW s g room n A B S (p :: Q)) (hs:strB s=true) (hn:n < s.rooms.length) {c:Nat} (hc:c=B.length+tailF s g (s.rooms.length - (n+1)) (n+1)) :
    ∃ n' A' B',n' < s.rooms.length/\MidW s g room n' A' p B' 0 S Q/\c=B'.length+1+tailF s g (s.rooms.length - (n'+1)) (n'+1):=by
 cases B with
 | cons b B =>
  have hq:=h.que
  rw[List.cons_append]at hq
  injection hq with hq _
  subst hq
  exact⟨n,A,B,hn,h.mid,by rw[hc,List.length_cons]⟩
 | nil =>
  have h2:=h.next hs
  have hq:p :: Q=F1 s g (n+1)++[]:=h2.que
  rw[List.append_nil]at hq
  have hl:n+1 < s.rooms.length:=by
   rcases Nat.lt_or_ge (n+1) s.rooms.length with q|q
   . exact q
   . exfalso
     rw[show F1 s g (n+1)=firstsS [] (levelL s g (n+1))from rfl,level_none hs q]at hq
     cases hq
  rw[<- hq]at h2
  refine⟨n+1,[],Q,hl,h2.mid,?_⟩
  rw[hc,List.length_nil,Nat.zero_add,show s.rooms.length - (n+1)=(s.rooms.length - (n+1+1))+1 from by omega,tailF,<- hq,List.length_cons]
theorem TopW.none (h:TopW s g room n A B S []) (hs:strB s=true):wayTo s g room s.rooms.length=none:=by
 have hq:=h.que
 obtain⟨hB,hX⟩:=List.append_eq_nil_iff.1 hq.symm
 subst hB
 have h2:=h.next hs
 have hq2:[]=F1 s g (n+1)++[]:=h2.que
 rw[List.append_nil]at hq2
 have hl:∀ {L:Ways},firstsS [] L=[]->L=[]:=fun {L} z=>by
  cases L with
  | nil=>rfl
  | cons x L =>
   rw[firstsS,if_neg (by intro z;cases z)]at z
   cases z
 have hnil:=hl hq2.symm
 have hall:∀ k,levelL s g (n+1+k)=[]:=fun k=>by
  induction k with
  | zero=>exact hnil
  | succ k ih =>
   show (levelL s g (n+1+k)).flatMap (stepsL s g)=[]
   rw[ih];rfl
 refine wayTo_none fun m _ p hp=>?_
 rcases Nat.lt_or_ge n m with q|q
 . rw[show m=n+1+(m - (n+1))from by omega,hall]at hp
   cases hp
 . exact h.no m q p hp
theorem top_begin (h0:Nat.testBit 1 room=false):TopW s g room 0 [] [([],1)] [1] [([],1)]:=by
 refine⟨rfl,rfl,fun r hr=>?_,fun m hm p hp=>?_,fun p hp=>by cases hp⟩
 · constructor
   . intro z
     rw[List.mem_singleton.1 z]at hr
     exact absurd hr (by decide)
   . intro z;cases z
 . obtain rfl:m=0:=by omega
   rw[show levelL s g 0=[([],1)]from rfl,List.mem_singleton]at hp
   rw[hp];exact h0
theorem MidW.small (h:MidW s g room n A p B i S Q) (hs:strB s=true) (hi:i≤s.gates.length):Q.length≤128:=by
 have h1:=firstsS_len 64 (levelL s g n) [] fun p hp=>(level_size hs hp).2.1
 have h2:=firstsS_len 64 (A.flatMap (stepsL s g)++stepsTo s g i p) [] fun q hq=>by
  have hq':q ∈ levelL s g (n+1):=by
   show q ∈ (levelL s g n).flatMap (stepsL s g)
   rw[List.mem_append]at hq
   rcases hq with hq|hq
   . obtain⟨a,ha,hq⟩:=List.mem_flatMap.1 hq
     exact List.mem_flatMap.2 ⟨a,firstsS_sub _ [] _ (by have:=h.lev;rw[show firstsS [] (levelL s g n)=A++p :: B from this];exact List.mem_append_left _ ha),hq⟩
   . exact List.mem_flatMap.2 ⟨p,h.mem,stepsTo_sub hi hq⟩
  exact (level_size hs hq').2.1
 have e:(firstsS [] (levelL s g n)).length=A.length+(B.length+1):=by rw[show firstsS [] (levelL s g n)=A++p :: B from h.lev,List.length_append,List.length_cons]
 rw[h.que,List.length_append]
 omega
end
end Go.Proofs

namespace Go.Proofs
open Go Go.RowKit Go.Sim
set_option maxRecDepth 100000
theorem Tryz.undV3:Tryz.prog.underlying 3=some (.int .i64):=by kernel_rfl
theorem Tryz.undV22:Tryz.prog.underlying 22=some (.slice 73):=by kernel_rfl
theorem Tryz.undV23:Tryz.prog.underlying 23=some (.slice 71):=by kernel_rfl
theorem Tryz.undV24:Tryz.prog.underlying 24=some (.slice 3):=by kernel_rfl
theorem Tryz.cellsV3:Tryz.prog.cellsOf 3=1:=by kernel_rfl
theorem Tryz.cellsV128:Tryz.prog.cellsOf 73=3:=by kernel_rfl
theorem Tryz.cellsV132:Tryz.prog.cellsOf 71=4:=by kernel_rfl
theorem Tryz.undV128:Tryz.prog.underlying 73=some (.struct #[⟨ "Hold",3,0,false, "", "",0⟩, ⟨ "Climate",3,1,false, "", "",8⟩, ⟨ "Keys",3,2,false, "", "",16⟩]):=by kernel_rfl
theorem Tryz.undV132:Tryz.prog.underlying 71=some (.struct #[⟨ "A",3,0,false, "", "",0⟩, ⟨ "B",3,1,false, "", "",8⟩, ⟨ "Need",3,2,false, "", "",16⟩, ⟨ "Ways",24,3,false, "", "",24⟩]):=by kernel_rfl
theorem Tryz.undV26:Tryz.prog.underlying 26=some (.struct #[⟨ "Rooms",22,0,false, "", "",0⟩, ⟨ "Gates",23,1,false, "", "",24⟩, ⟨ "Staff",24,2,false, "", "",48⟩]):=by kernel_rfl
theorem given_intV {w:AW} {n:Nat} {cs:List Value} (h:Hd Tryz.prog w n 3 cs):∃ x:Int,cs=icells x:=by
 cases n with
 | zero=>exact h.elim
 | succ n =>
  simp only[Hd,Tryz.undV3]at h
  obtain⟨i,rfl,h1,h2⟩:=h
  exact⟨i,rfl⟩
theorem rows_ofV {α:Type} {enc:α->List Value} {rows:List (List Value)} (h:∀ r ∈ rows,∃ x:α,r=enc x):∃ xs:List α,rows=xs.map enc:=by
 induction rows with
 | nil=>exact⟨[],rfl⟩
 | cons r rows ih =>
  obtain⟨x,hx⟩:=h r List.mem_cons_self
  obtain⟨xs,hxs⟩:=ih fun q hq=>h q (List.mem_cons_of_mem _ hq)
  exact⟨x :: xs,by rw[hx,hxs];rfl⟩
theorem given_intsW {w:AW} {n:Nat} {cs:List Value} (h:Hd Tryz.prog w n 24 cs):∃ v,cs=[v]/\∃ xs,ArrOf w 1 icells v xs:=by
 cases n with
 | zero=>exact h.elim
 | succ n =>
  simp only[Hd,Tryz.undV24,Tryz.cellsV3]at h
  obtain⟨v,rows,rfl,ha,hr,_⟩:=h
  obtain⟨xs,rfl⟩:=rows_ofV (enc:=icells) fun r hq=>given_intV (hr r hq)
  exact⟨v,rfl,xs,ha⟩
theorem given_room {w:AW} {n:Nat} {cs:List Value} (h:Hd Tryz.prog w n 73 cs):∃ r:RoomN,cs=rcells r:=by
 cases n with
 | zero=>exact h.elim
 | succ n =>
  simp only[Hd,Tryz.undV128]at h
  obtain⟨parts,hc,hl,hp⟩:=h
  match parts,hl with
  | [p0,p1,p2],_ =>
   obtain⟨a,rfl⟩:=given_intV (hp 0 _ p0 rfl rfl)
   obtain⟨b,rfl⟩:=given_intV (hp 1 _ p1 rfl rfl)
   obtain⟨c,rfl⟩:=given_intV (hp 2 _ p2 rfl rfl)
   exact⟨⟨a,b,c⟩,by rw[hc];rfl⟩
theorem given_rooms {w:AW} {n:Nat} {cs:List Value} (h:Hd Tryz.prog w n 22 cs):∃ v,cs=[v]/\∃ xs,ArrOf w 3 rcells v xs:=by
 cases n with
 | zero=>exact h.elim
 | succ n =>
  simp only[Hd,Tryz.undV22,Tryz.cellsV128]at h
  obtain⟨v,rows,rfl,ha,hr,_⟩:=h
  obtain⟨xs,rfl⟩:=rows_ofV (enc:=rcells) fun r hq=>given_room (hr r hq)
  exact⟨v,rfl,xs,ha⟩
theorem given_gate {w:AW} {n:Nat} {cs:List Value} (h:Hd Tryz.prog w n 71 cs):∃ p:GateN × Value,cs=gcells p/\ArrOf w 1 icells p.2 p.1.ways:=by
 cases n with
 | zero=>exact h.elim
 | succ n =>
  simp only[Hd,Tryz.undV132]at h
  obtain⟨parts,hc,hl,hp⟩:=h
  match parts,hl with
  | [p0,p1,p2,p3],_ =>
   obtain⟨a,rfl⟩:=given_intV (hp 0 _ p0 rfl rfl)
   obtain⟨b,rfl⟩:=given_intV (hp 1 _ p1 rfl rfl)
   obtain⟨c,rfl⟩:=given_intV (hp 2 _ p2 rfl rfl)
   obtain⟨v,rfl,xs,hx⟩:=given_intsW (hp 3 _ p3 rfl rfl)
   exact⟨(⟨a,b,c,xs⟩,v),by rw[hc];rfl,hx⟩
theorem rows_ofP {α:Type} {enc:α->List Value} {Q:α->Prop} {rows:List (List Value)} (h:∀ r ∈ rows,∃ x:α,r=enc x/\Q x):∃ xs:List α,rows=xs.map enc/\∀ x ∈ xs,Q x:=by
 induction rows with
 | nil=>exact⟨[],rfl,fun _ h=>by cases h⟩
 | cons r rows ih =>
  obtain⟨x,hx,hr⟩:=h r List.mem_cons_self
  obtain⟨xs,hxs,hr2⟩:=ih fun q hq=>h q (List.mem_cons_of_mem _ hq)
  exact ⟨x :: xs,by rw[hx,hxs];rfl,fun y hy=>by
   rcases List.mem_cons.1 hy with rfl|hy
   . exact hr
   . exact hr2 y hy⟩
theorem given_gates {w:AW} {n:Nat} {cs:List Value} (h:Hd Tryz.prog w n 23 cs):∃ v,cs=[v]/\∃ xs,GatesAt w v xs:=by
 cases n with
 | zero=>exact h.elim
 | succ n =>
  simp only[Hd,Tryz.undV23,Tryz.cellsV132]at h
  obtain⟨v,rows,rfl,ha,hr,_⟩:=h
  obtain⟨xs,rfl,hq⟩:=rows_ofP (enc:=gcells) (Q:=fun p=>ArrOf w 1 icells p.2 p.1.ways) fun r hq=>given_gate (hr r hq)
  exact⟨v,rfl,xs.map Prod.fst,xs,rfl,ha,hq⟩
theorem given_strong {w:AW} {n:Nat} {v:Value} (h:HdV Tryz.prog w n 26 v):∃ (s:StrN) (pR pG pS:Option Addr) (cR cG cS:Nat),v=.agg (strC pR pG pS cR cG cS s).toArray/\StrAt w pR pG pS cR cG cS s:=by
 simp only[HdV,Tryz.undV26]at h
 obtain⟨cs,rfl,h⟩:=h
 cases n with
 | zero=>exact h.elim
 | succ n =>
  simp only[Hd,Tryz.undV26]at h
  obtain⟨parts,hc,hl,hp⟩:=h
  match parts,hl with
  | [p0,p1,p2],_ =>
   obtain⟨u,rfl,xs,hx⟩:=given_rooms (hp 0 _ p0 rfl rfl)
   obtain⟨z,rfl,ys,hy⟩:=given_gates (hp 1 _ p1 rfl rfl)
   obtain⟨q,rfl,ss,hss⟩:=given_intsW (hp 2 _ p2 rfl rfl)
   obtain⟨pR,cR,rfl,_⟩:=id hx.open
   have hg:∃ p c,z=.slice p ys.length c:=by
    obtain⟨ws,rfl,hA,_⟩:=hy
    obtain⟨p,c,rfl,_⟩:=hA.open
    exact⟨p,c,by simp⟩
   obtain⟨pG,cG,rfl⟩:=hg
   obtain⟨pS,cS,rfl,_⟩:=id hss.open
   refine⟨⟨xs,ys,ss⟩,pR,pG,pS,cR,cG,cS,?_,hx,hy,hss⟩
   rw[show cs=cs.toList.toArray from rfl,hc];rfl
end Go.Proofs
