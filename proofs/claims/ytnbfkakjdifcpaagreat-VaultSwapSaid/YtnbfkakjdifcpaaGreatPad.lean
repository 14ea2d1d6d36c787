/- This program: its code, contracts, numbers, part 4. -/
import Derived.Test.YtnbfkakjdifcpaaGreatPac
import Derived.Test.YtnbfkakjdifcpaaGreatPaa
import Derived.Test.YtnbfkakjdifcpaaGreatPab
import Derived.Test.YtnbfkakjdifcpaaGreatNc
import Derived.Test.YtnbfkakjdifcpaaGreatNa
import Derived.Test.YtnbfkakjdifcpaaGreatChecked
set_option linter.unusedVariables false
set_option linter.unusedSimpArgs false
namespace Go.Proofs
open Go Go.RowKit Go.Sim
set_option maxRecDepth 100000
end Go.Proofs

namespace Go.Proofs
open Go Go.RowKit Go.Sim
set_option maxRecDepth 100000
def askN (s:StrN) (x:Int):Int:=if strB s=true then (if setB s.staff.length x=true then 0 else 41) else 40
theorem askN_ok {s:StrN} {x:Int} (h:askN s x=0):strB s=true∧∃ g:Nat,x=(g:Int)∧g < 64∧g < 2 ^ s.staff.length∧∀ k,g.testBit k=true→k < s.staff.length:=by
  unfold askN at h
  split at h
  case isFalse=>cases h
  rename_i hs
  split at h
  case isFalse=>cases h
  rename_i hx
  refine ⟨hs,?_⟩
  have hl:=(str_staff hs).2.1
  unfold setB fullI at hx
  have:=(inR_iff _ _ _).1 hx
  have hp:2 ^ s.staff.length≤64:=by
    have:∀ n,n≤6→2 ^ n≤64:=by decide
    exact this _ hl
  refine ⟨x.toNat,by omega,by omega,by omega,fun k hk=>bit_lt (n:=s.staff.length) (x:=x.toNat) (by omega) hk⟩
def entN (s:StrN) (x:Int):Int:=if askN s x=0 then (endR s x.toNat 1:Int) else 0
end Go.Proofs

namespace Go.Proofs
open Go Go.RowKit Go.Sim
set_option maxRecDepth 100000
end Go.Proofs

namespace Go.Proofs
open Go Go.RowKit Go.Sim
set_option maxRecDepth 100000
end Go.Proofs

namespace Go.Proofs
open Go Go.RowKit Go.Sim
set_option maxRecDepth 100000
def noTour:Value:=.agg #[.slice none 0 0,.slice none 0 0,.slice none 0 0,.int .i64 0,.int .i64 0]
def OpenIs (s:StrN) (pR pG pS:Option Addr) (cR cG cS:Nat) (x:Int) (v:Value):Prop :=
  (askN s x=0∧v=.tuple #[.agg (tourC pR pG pS cR cG cS s x.toNat 1).toArray,.int .i64 0]) ∨ (askN s x ≠ 0∧v=.tuple #[noTour,.int .i64 (askN s x)])
theorem bld80:bldQ [(0,3),(3,1),(4,1)] [.slice none 0 0,.slice none 0 0,.slice none 0 0,.int .i64 0,.int .i64 0] []=some (.agg #[.slice none 0 0,.slice none 0 0,.slice none 0 0,.int .i64 0,.int .i64 0]):=by rfl
set_option maxHeartbeats 16000000 in
theorem open_ok (s:StrN) (pR pG pS:Option Addr) (cR cG cS:Nat) (x:Int) (w:AW) (f:Fresh w) (hA:StrAt w pR pG pS cR cG cS s) :
    CallT Tryz.prog Tryz.T1 (.fn (.func 47) #[]) #[.agg (strC pR pG pS cR cG cS s).toArray,.int .i64 x] w (fun v w'=>OpenIs s pR pG pS cR cG cS x v∧Grown w w'):=by
  have g1:=(Grown.refl f).push (.cells (strC pR pG pS cR cG cS s) 26 w.next 0 0)
  have O1:=Own.new f 26 (strC pR pG pS cR cG cS s)
  have g2:=g1.push (.cells [.slice none 0 0,.slice none 0 0,.slice none 0 0,.int .i64 0,.int .i64 0] 80 (w.next+1) 0 0)
  have O2:=Own.new g1.2 80 [.slice none 0 0,.slice none 0 0,.slice none 0 0,.int .i64 0,.int .i64 0]
  rw [AW.next_push] at O2
  have O1':=O1.push (.cells [.slice none 0 0,.slice none 0 0,.slice none 0 0,.int .i64 0,.int .i64 0] 80 (w.next+1) 0 0)
  have hl:=loadAll O1' (n:=3) rfl (by simp [strC,oneCell])
  have hch:=fun w' (g':Grown w w')=>CheckV_ok s pR pG pS cR cG cS w' g'.2 (hA.grown g')
  have hbe:=fun (g:Nat) w' (g':Grown w w')=>begin_ok s pR pG pS cR cG cS g w' g'.2
  have hak:askN s x=if strB s=true then (if setB s.staff.length x=true then 0 else 41) else 40:=rfl
  unfold strC at *
  refine callT_code rfl Tryz.func47 rfl Tryz.s47_eq rfl ?_
  delta Tryz.s47 zo zt zg zh
  simp -dsimp -implicitDefEqProofs (maxSteps:=2000000) (disch:=first|assumption|omega|(simp only [nx];omega)|((repeat refine Fresh.push ?_ _);assumption)|(simp only [smA];done)|(simp [oneCell,AW.next_push];done)|fail) only [go_sem,Nat.reduceEqDiff,reduceIte,Nat.reduceAdd,Tryz.results47,hl]
  generalize (w.push (.cells [.slice pR s.rooms.length cR,.slice pG s.gates.length cG,.slice pS s.staff.length cS] 26 w.next 0 0)).push (.cells [.slice none 0 0,.slice none 0 0,.slice none 0 0,.int .i64 0,.int .i64 0] 80 (w.next+1) 0 0)=w2 at *
  apply callV_of (e:=rfl)
  · exact hch w2 g2
  rintro _ w3 ⟨rfl,g3⟩
  have gg3:=g2.trans g3
  have O13:=O1'.keep g3.1
  have O23:=O2.keep g3.1
  have c2:=O13.cell (o:=2) (v:=.slice pS s.staff.length cS) rfl rfl
  have hl3:=loadAll O13 (n:=3) rfl (by simp [oneCell])
  have hcut:∀ l:List Value,l.length=5→setsL [.slice none 0 0,.slice none 0 0,.slice none 0 0,.int .i64 0,.int .i64 0] 0 l=l:=fun l h=>by match l,h with|[a,b,c,d,e],_=>rfl
  have st0:=storeV_own (o:=0) (l:=[.slice none 0 0,.slice none 0 0,.slice none 0 0,.int .i64 0,.int .i64 0]) (size:=5) O23 rfl (by omega) (by simp) rfl
  rw [hcut _ rfl] at st0
  have m4:=MutS.put (S:=fun j=>j=w.next+1) g3.2 rfl O23.lt (.cells [.slice none 0 0,.slice none 0 0,.slice none 0 0,.int .i64 0,.int .i64 0] 80 (w.next+1) 0 0)
  have O4:=O23.put [.slice none 0 0,.slice none 0 0,.slice none 0 0,.int .i64 0,.int .i64 0]
  have g4:Grown w _:=⟨gg3.1.trans (m4.keep (B:=w.next) (fun j q=>by omega) gg3.1.next),m4.fresh⟩
  have hl4:=loadAll O4 (n:=5) rfl (by simp [oneCell])
  cases hs:strB s with
  | false =>
    rw [hs,if_neg (by intro z;cases z)] at hak
    have hE:strE s=40:=by unfold strE;rw [hs];rfl
    have h40:¬ (40:Int)=0:=by omega
    simp -dsimp -implicitDefEqProofs (maxSteps:=2000000) (disch:=first|assumption|omega|(simp only [nx];omega)|((repeat refine Fresh.push ?_ _);assumption)|(simp only [smA];done)|(simp [oneCell,AW.next_push];done)|fail) only [go_sem,Nat.reduceEqDiff,reduceIte,Nat.reduceAdd,Tryz.results47,hE,h40,bld80,st0,hl4]
    exact ⟨.inr ⟨by rw [hak];exact h40,by rw [hak];rfl⟩,g4⟩
  | true =>
  rw [hs,if_pos rfl] at hak
  have hE:strE s=0:=by unfold strE;rw [hs];rfl
  have hsl:=(str_staff hs).2.1
  simp -dsimp -implicitDefEqProofs (maxSteps:=2000000) (disch:=first|assumption|omega|(simp only [nx];omega)|((repeat refine Fresh.push ?_ _);assumption)|(simp only [smA];done)|(simp [oneCell,AW.next_push];done)|fail) only [go_sem,Nat.reduceEqDiff,reduceIte,Nat.reduceAdd,Tryz.results47,hE,c2,Nat.zero_add]
  apply callV_of (e:=rfl)
  · exact isSet_ok (n:=s.staff.length) (by omega) x w3
  rintro _ _ ⟨rfl,rfl⟩
  cases hx:setB s.staff.length x with
  | false =>
    rw [hx,if_neg (by intro z;cases z)] at hak
    simp -dsimp -implicitDefEqProofs (maxSteps:=2000000) (disch:=first|assumption|omega|(simp only [nx];omega)|((repeat refine Fresh.push ?_ _);assumption)|(simp only [smA];done)|(simp [oneCell,AW.next_push];done)|fail) only [go_sem,Nat.reduceEqDiff,reduceIte,Nat.reduceAdd,Tryz.results47,hx,bld80,st0,hl4]
    exact ⟨.inr ⟨by rw [hak];omega,by rw [hak];rfl⟩,g4⟩
  | true =>
  rw [hx,if_pos rfl] at hak
  obtain ⟨_,g,rfl,hg,_,hgb⟩:=askN_ok hak
  simp -dsimp -implicitDefEqProofs (maxSteps:=2000000) (disch:=first|assumption|omega|(simp only [nx];omega)|((repeat refine Fresh.push ?_ _);assumption)|(simp only [smA];done)|(simp [oneCell,AW.next_push];done)|fail) only [go_sem,Nat.reduceEqDiff,reduceIte,Nat.reduceAdd,Tryz.results47,hx,hl3]
  apply callV_of (e:=rfl)
  · exact hbe g w3 gg3
  rintro _ w5 ⟨rfl,g5⟩
  have gg5:=gg3.trans g5
  have O25:=O23.keep g5.1
  have st5:=storeV_own (o:=0) (l:=tourC pR pG pS cR cG cS s g 1) (size:=5) O25 rfl (by omega) (by simp [tourC]) (by simp [tourC,oneCell])
  rw [hcut _ rfl] at st5
  have m6:=MutS.put (S:=fun j=>j=w.next+1) g5.2 rfl O25.lt (.cells (tourC pR pG pS cR cG cS s g 1) 80 (w.next+1) 0 0)
  have O6:=O25.put (tourC pR pG pS cR cG cS s g 1)
  have g6:Grown w _:=⟨gg5.1.trans (m6.keep (B:=w.next) (fun j q=>by omega) gg5.1.next),m6.fresh⟩
  have hl6:=loadAll O6 (n:=5) rfl (by simp [tourC,oneCell])
  unfold tourC at *
  simp -dsimp -implicitDefEqProofs (maxSteps:=2000000) (disch:=first|assumption|omega|(simp only [nx];omega)|((repeat refine Fresh.push ?_ _);assumption)|(simp only [smA];done)|(simp [oneCell,AW.next_push];done)|fail) only [go_sem,Nat.reduceEqDiff,reduceIte,Nat.reduceAdd,Tryz.results47,st5,hl6]
  exact ⟨.inl ⟨hak,rfl⟩,g6⟩
set_option maxHeartbeats 16000000 in
theorem EnterV_ok (s:StrN) (pR pG pS:Option Addr) (cR cG cS:Nat) (x:Int) (w:AW) (f:Fresh w) (hA:StrAt w pR pG pS cR cG cS s) :
    CallT Tryz.prog Tryz.T1 (.fn (.func 15) #[]) #[.agg (strC pR pG pS cR cG cS s).toArray,.int .i64 x] w (Ret (.tuple #[.int .i64 (entN s x),.int .i64 (askN s x)]) (Grown w)):=by
  have g1:=(Grown.refl f).push (.cells (strC pR pG pS cR cG cS s) 26 w.next 0 0)
  have O1:=Own.new f 26 (strC pR pG pS cR cG cS s)
  have hl1:=loadAll O1 (n:=3) rfl (by simp [strC,oneCell])
  have hop:=fun w' (g':Grown w w')=>open_ok s pR pG pS cR cG cS x w' g'.2 (hA.grown g')
  have hen:∀ g:Nat,strB s=true→g < 64→(∀ k,g.testBit k=true→k < s.staff.length)→∀ w',Grown w w'→_:=fun g hs hg hgb w' g'=>end_ok hs (g:=g) hg hgb 64 1 (by omega) (by omega) (one_bits hs) w' g'.2 (hA.grown g')
  have hcut:∀ l:List Value,l.length=5→setsL [.slice none 0 0,.slice none 0 0,.slice none 0 0,.int .i64 0,.int .i64 0] 0 l=l:=fun l h=>by match l,h with|[a,b,c,d,e],_=>rfl
  unfold strC at *
  refine callT_code rfl Tryz.func15 rfl Tryz.s15_eq rfl ?_
  delta Tryz.s15 zo zt zg zh
  simp -dsimp -implicitDefEqProofs (maxSteps:=2000000) (disch:=first|assumption|omega|(simp only [nx];omega)|((repeat refine Fresh.push ?_ _);assumption)|(simp only [smA];done)|(simp [oneCell,AW.next_push];done)|fail) only [go_sem,Nat.reduceEqDiff,reduceIte,Nat.reduceAdd,Tryz.results15,hl1]
  generalize w.push (.cells [.slice pR s.rooms.length cR,.slice pG s.gates.length cG,.slice pS s.staff.length cS] 26 w.next 0 0)=w1 at *
  apply callV_of (e:=rfl)
  · exact hop w1 g1
  rintro _ w2 ⟨hv,g2⟩
  have gg2:=g1.trans g2
  have g3:=(Grown.refl gg2.2).push (.cells [.slice none 0 0,.slice none 0 0,.slice none 0 0,.int .i64 0,.int .i64 0] 80 w2.next 0 0)
  have O3:=Own.new gg2.2 80 [.slice none 0 0,.slice none 0 0,.slice none 0 0,.int .i64 0,.int .i64 0]
  rcases hv with ⟨h,rfl⟩|⟨h,rfl⟩
  · obtain ⟨hs,g,rfl,hg,_,hgb⟩:=askN_ok h
    have hE:entN s (g:Int)=(endR s g 1:Int):=by unfold entN;rw [if_pos h];rfl
    rw [hE,h]
    have hin:=(endR_in hs g).1
    have st:=storeV_own (o:=0) (l:=tourC pR pG pS cR cG cS s g 1) (size:=5) O3 rfl (by omega) (by simp [tourC]) (by simp [tourC,oneCell])
    rw [hcut _ rfl] at st
    have m4:=MutS.put (S:=fun j=>j=w2.next) g3.2 rfl O3.lt (.cells (tourC pR pG pS cR cG cS s g 1) 80 w2.next 0 0)
    have O4:=O3.put (tourC pR pG pS cR cG cS s g 1)
    have g4:Grown w2 _:=⟨g3.1.trans (m4.keep (B:=w2.next) (fun j q=>by omega) g3.1.next),m4.fresh⟩
    have hl4:=loadAll O4 (n:=5) rfl (by simp [tourC,oneCell])
    have hen:=hen g hs hg hgb _ (gg2.trans g4)
    unfold tourC at *
    simp -dsimp -implicitDefEqProofs (maxSteps:=2000000) (disch:=first|assumption|omega|(simp only [nx];omega)|((repeat refine Fresh.push ?_ _);assumption)|(simp only [smA];done)|(simp [oneCell,AW.next_push];done)|fail) only [go_sem,Nat.reduceEqDiff,reduceIte,Nat.reduceAdd,Tryz.results15,st,hl4,show ((g:Int)).toNat=g from rfl]
    apply callV_of (e:=rfl)
    · exact hen
    rintro _ w5 ⟨rfl,g5⟩
    simp -dsimp -implicitDefEqProofs (maxSteps:=2000000) (disch:=first|assumption|omega|(simp only [nx];omega)|((repeat refine Fresh.push ?_ _);assumption)|(simp only [smA];done)|(simp [oneCell,AW.next_push];done)|fail) only [go_sem,Nat.reduceEqDiff,reduceIte,Nat.reduceAdd,Tryz.results15]
    refine ⟨.int .i64 (endF s g 64 1:Int),Tryz.fd80 _ _ _ _ _ _ _ _ (by simp -dsimp -implicitDefEqProofs (maxSteps:=2000000) (disch:=first|assumption|omega|(simp only [nx];omega)|((repeat refine Fresh.push ?_ _);assumption)|(simp only [smA];done)|(simp [oneCell,AW.next_push];done)|fail) only [go_sem,Nat.reduceEqDiff,reduceIte,Nat.reduceAdd];rfl) rfl,?_⟩
    simp -dsimp -implicitDefEqProofs (maxSteps:=2000000) (disch:=first|assumption|omega|(simp only [nx];omega)|((repeat refine Fresh.push ?_ _);assumption)|(simp only [smA];done)|(simp [oneCell,AW.next_push];done)|fail) only [go_sem,Nat.reduceEqDiff,reduceIte,Nat.reduceAdd,Tryz.results15]
    exact ⟨rfl,(gg2.trans g4).trans g5⟩
  · have hE:entN s x=0:=by unfold entN;rw [if_neg h]
    rw [hE]
    have st:=storeV_own (o:=0) (l:=[.slice none 0 0,.slice none 0 0,.slice none 0 0,.int .i64 0,.int .i64 0]) (size:=5) O3 rfl (by omega) (by simp) rfl
    rw [hcut _ rfl] at st
    have m4:=MutS.put (S:=fun j=>j=w2.next) g3.2 rfl O3.lt (.cells [.slice none 0 0,.slice none 0 0,.slice none 0 0,.int .i64 0,.int .i64 0] 80 w2.next 0 0)
    have g4:Grown w2 _:=⟨g3.1.trans (m4.keep (B:=w2.next) (fun j q=>by omega) g3.1.next),m4.fresh⟩
    unfold noTour
    simp -dsimp -implicitDefEqProofs (maxSteps:=2000000) (disch:=first|assumption|omega|(simp only [nx];omega)|((repeat refine Fresh.push ?_ _);assumption)|(simp only [smA];done)|(simp [oneCell,AW.next_push];done)|fail) only [go_sem,Nat.reduceEqDiff,reduceIte,Nat.reduceAdd,Tryz.results15,st,h]
    exact ⟨rfl,gg2.trans g4⟩
end Go.Proofs

namespace Go.Proofs
open Go Go.RowKit Go.Sim
set_option maxRecDepth 100000
theorem Tryz.undV3:Tryz.prog.underlying 3=some (.int .i64):=by kernel_rfl
theorem Tryz.undV22:Tryz.prog.underlying 22=some (.slice 73):=by kernel_rfl
theorem Tryz.undV23:Tryz.prog.underlying 23=some (.slice 71):=by kernel_rfl
theorem Tryz.undV24:Tryz.prog.underlying 24=some (.slice 3):=by kernel_rfl
theorem Tryz.cellsV3:Tryz.prog.cellsOf 3=1:=by kernel_rfl
theorem Tryz.cellsV128:Tryz.prog.cellsOf 73=3:=by kernel_rfl
theorem Tryz.cellsV132:Tryz.prog.cellsOf 71=4:=by kernel_rfl
theorem Tryz.undV128:Tryz.prog.underlying 73=some (.struct #[{ name := "Hold",type:=3,offset:=0,embedded:=false,tag := "",pkgPath := "",byteOffset:=0 },{ name := "Climate",type:=3,offset:=1,embedded:=false,tag := "",pkgPath := "",byteOffset:=8 },{ name := "Keys",type:=3,offset:=2,embedded:=false,tag := "",pkgPath := "",byteOffset:=16 }]):=by kernel_rfl
theorem Tryz.undV132:Tryz.prog.underlying 71=some (.struct #[{ name := "A",type:=3,offset:=0,embedded:=false,tag := "",pkgPath := "",byteOffset:=0 },{ name := "B",type:=3,offset:=1,embedded:=false,tag := "",pkgPath := "",byteOffset:=8 },{ name := "Need",type:=3,offset:=2,embedded:=false,tag := "",pkgPath := "",byteOffset:=16 },{ name := "Ways",type:=24,offset:=3,embedded:=false,tag := "",pkgPath := "",byteOffset:=24 }]):=by kernel_rfl
theorem Tryz.undV26:Tryz.prog.underlying 26=some (.struct #[{ name := "Rooms",type:=22,offset:=0,embedded:=false,tag := "",pkgPath := "",byteOffset:=0 },{ name := "Gates",type:=23,offset:=1,embedded:=false,tag := "",pkgPath := "",byteOffset:=24 },{ name := "Staff",type:=24,offset:=2,embedded:=false,tag := "",pkgPath := "",byteOffset:=48 }]):=by kernel_rfl
theorem given_intV {w:AW} {n:Nat} {cs:List Value} (h:Hd Tryz.prog w n 3 cs):∃ x:Int,cs=icells x:=by
  cases n with
  | zero=>exact h.elim
  | succ n =>
    simp only [Hd,Tryz.undV3] at h
    obtain ⟨i,rfl,h1,h2⟩:=h
    exact ⟨i,rfl⟩
theorem rows_ofV {α:Type} {enc:α→List Value} {rows:List (List Value)} (h:∀ r ∈ rows,∃ x:α,r=enc x):∃ xs:List α,rows=xs.map enc:=by
  induction rows with
  | nil=>exact ⟨[],rfl⟩
  | cons r rows ih =>
    obtain ⟨x,hx⟩:=h r List.mem_cons_self
    obtain ⟨xs,hxs⟩:=ih fun q hq=>h q (List.mem_cons_of_mem _ hq)
    exact ⟨x :: xs,by rw [hx,hxs];rfl⟩
theorem given_intsW {w:AW} {n:Nat} {cs:List Value} (h:Hd Tryz.prog w n 24 cs):∃ v,cs=[v]∧∃ xs,ArrOf w 1 icells v xs:=by
  cases n with
  | zero=>exact h.elim
  | succ n =>
    simp only [Hd,Tryz.undV24,Tryz.cellsV3] at h
    obtain ⟨v,rows,rfl,ha,hr,_⟩:=h
    obtain ⟨xs,rfl⟩:=rows_ofV (enc:=icells) fun r hq=>given_intV (hr r hq)
    exact ⟨v,rfl,xs,ha⟩
theorem given_room {w:AW} {n:Nat} {cs:List Value} (h:Hd Tryz.prog w n 73 cs):∃ r:RoomN,cs=rcells r:=by
  cases n with
  | zero=>exact h.elim
  | succ n =>
    simp only [Hd,Tryz.undV128] at h
    obtain ⟨parts,hc,hl,hp⟩:=h
    match parts,hl with
    | [p0,p1,p2],_ =>
      obtain ⟨a,rfl⟩:=given_intV (hp 0 _ p0 rfl rfl)
      obtain ⟨b,rfl⟩:=given_intV (hp 1 _ p1 rfl rfl)
      obtain ⟨c,rfl⟩:=given_intV (hp 2 _ p2 rfl rfl)
      exact ⟨⟨a,b,c⟩,by rw [hc];rfl⟩
theorem given_rooms {w:AW} {n:Nat} {cs:List Value} (h:Hd Tryz.prog w n 22 cs):∃ v,cs=[v]∧∃ xs,ArrOf w 3 rcells v xs:=by
  cases n with
  | zero=>exact h.elim
  | succ n =>
    simp only [Hd,Tryz.undV22,Tryz.cellsV128] at h
    obtain ⟨v,rows,rfl,ha,hr,_⟩:=h
    obtain ⟨xs,rfl⟩:=rows_ofV (enc:=rcells) fun r hq=>given_room (hr r hq)
    exact ⟨v,rfl,xs,ha⟩
theorem given_gate {w:AW} {n:Nat} {cs:List Value} (h:Hd Tryz.prog w n 71 cs):∃ p:GateN × Value,cs=gcells p∧ArrOf w 1 icells p.2 p.1.ways:=by
  cases n with
  | zero=>exact h.elim
  | succ n =>
    simp only [Hd,Tryz.undV132] at h
    obtain ⟨parts,hc,hl,hp⟩:=h
    match parts,hl with
    | [p0,p1,p2,p3],_ =>
      obtain ⟨a,rfl⟩:=given_intV (hp 0 _ p0 rfl rfl)
      obtain ⟨b,rfl⟩:=given_intV (hp 1 _ p1 rfl rfl)
      obtain ⟨c,rfl⟩:=given_intV (hp 2 _ p2 rfl rfl)
      obtain ⟨v,rfl,xs,hx⟩:=given_intsW (hp 3 _ p3 rfl rfl)
      exact ⟨(⟨a,b,c,xs⟩,v),by rw [hc];rfl,hx⟩
theorem rows_ofP {α:Type} {enc:α→List Value} {Q:α→Prop} {rows:List (List Value)} (h:∀ r ∈ rows,∃ x:α,r=enc x∧Q x):∃ xs:List α,rows=xs.map enc∧∀ x ∈ xs,Q x:=by
  induction rows with
  | nil=>exact ⟨[],rfl,fun _ h=>by cases h⟩
  | cons r rows ih =>
    obtain ⟨x,hx,hr⟩:=h r List.mem_cons_self
    obtain ⟨xs,hxs,hr2⟩:=ih fun q hq=>h q (List.mem_cons_of_mem _ hq)
    exact ⟨x :: xs,by rw [hx,hxs];rfl,fun y hy=>by
      rcases List.mem_cons.1 hy with rfl|hy
      · exact hr
      · exact hr2 y hy⟩
theorem given_gates {w:AW} {n:Nat} {cs:List Value} (h:Hd Tryz.prog w n 23 cs):∃ v,cs=[v]∧∃ xs,GatesAt w v xs:=by
  cases n with
  | zero=>exact h.elim
  | succ n =>
    simp only [Hd,Tryz.undV23,Tryz.cellsV132] at h
    obtain ⟨v,rows,rfl,ha,hr,_⟩:=h
    obtain ⟨xs,rfl,hq⟩:=rows_ofP (enc:=gcells) (Q:=fun p=>ArrOf w 1 icells p.2 p.1.ways) fun r hq=>given_gate (hr r hq)
    exact ⟨v,rfl,xs.map Prod.fst,xs,rfl,ha,hq⟩
theorem given_strong {w:AW} {n:Nat} {v:Value} (h:HdV Tryz.prog w n 26 v):∃ (s:StrN) (pR pG pS:Option Addr) (cR cG cS:Nat),v=.agg (strC pR pG pS cR cG cS s).toArray∧StrAt w pR pG pS cR cG cS s:=by
  simp only [HdV,Tryz.undV26] at h
  obtain ⟨cs,rfl,h⟩:=h
  cases n with
  | zero=>exact h.elim
  | succ n =>
    simp only [Hd,Tryz.undV26] at h
    obtain ⟨parts,hc,hl,hp⟩:=h
    match parts,hl with
    | [p0,p1,p2],_ =>
      obtain ⟨u,rfl,xs,hx⟩:=given_rooms (hp 0 _ p0 rfl rfl)
      obtain ⟨z,rfl,ys,hy⟩:=given_gates (hp 1 _ p1 rfl rfl)
      obtain ⟨q,rfl,ss,hss⟩:=given_intsW (hp 2 _ p2 rfl rfl)
      obtain ⟨pR,cR,rfl,_⟩:=id hx.open
      have hg:∃ p c,z=.slice p ys.length c:=by
        obtain ⟨ws,rfl,hA,_⟩:=hy
        obtain ⟨p,c,rfl,_⟩:=hA.open
        exact ⟨p,c,by simp⟩
      obtain ⟨pG,cG,rfl⟩:=hg
      obtain ⟨pS,cS,rfl,_⟩:=id hss.open
      refine ⟨⟨xs,ys,ss⟩,pR,pG,pS,cR,cG,cS,?_,hx,hy,hss⟩
      rw [show cs=cs.toList.toArray from rfl,hc];rfl
end Go.Proofs

namespace Go.Proofs
open Go Go.RowKit Go.Sim
set_option maxRecDepth 100000
end Go.Proofs

namespace Go.Proofs
open Go Go.RowKit Go.Sim
set_option maxRecDepth 100000
def Tryz.s42:SC:=(.seq (.ops false [zo (some 2) (.assign (.const (.bool false))) 4]) (.seq (.seq (.ops false [zo (some 3) (.assign (.const (.int .i64 0))) 3]) (.block 0 (.loop (.seq (.seq (.ops false [zo (some 5) (.move (.tmp 3)) 3,zo (some 6) (.move (.tmp 0)) 24,zo (some 7) (.call ⟨.builtin .len,⟨[(.tmp 6)]⟩,⟨[24]⟩⟩) 3,zo (some 8) (.binOp .lss 3 (.tmp 5) (.tmp 7) 3) 4]) (.cond (.tmp 8) .skip (.exit 0))) (.seq (.block 1 (.seq (.ops false [zo (some 4) (.assign (.const (.int .i64 0))) 3]) (.block 2 (.loop (.seq (.seq (.ops false [zo (some 11) (.move (.tmp 4)) 3,zo (some 12) (.move (.tmp 0)) 24,zo (some 13) (.call ⟨.builtin .len,⟨[(.tmp 12)]⟩,⟨[24]⟩⟩) 3,zo (some 14) (.binOp .lss 3 (.tmp 11) (.tmp 13) 3) 4]) (.cond (.tmp 14) .skip (.exit 2))) (.seq (.block 3 (.seq (.ops true [zt (some 17) (.move (.tmp 3)) 3,zt (some 18) (.move (.tmp 4)) 3,zt (some 19) (.binOp .neq 3 (.tmp 17) (.tmp 18) 3) 4,zt (some 20) (.move (.tmp 19)) 4,zh (some 21) (.move (.tmp 0)) 24 20 true,zh (some 22) (.move (.tmp 3)) 3 20 true,zh (some 23) (.indexAddr 24 (.tmp 21) (.tmp 22)) 0 20 true,zh (some 24) (.load 3 (.tmp 23)) 3 20 true,zh (some 25) (.move (.tmp 0)) 24 20 true,zh (some 26) (.move (.tmp 4)) 3 20 true,zh (some 27) (.indexAddr 24 (.tmp 25) (.tmp 26)) 0 20 true,zh (some 28) (.load 3 (.tmp 27)) 3 20 true,zg (some 29) (.call ⟨.value (.func 37),⟨[(.tmp 24),(.tmp 28)]⟩,⟨[3,3]⟩⟩) 4 20 true,zt (some 30) (.pick (.tmp 20) (.tmp 29) (.const (.bool false))) 4]) (.cond (.tmp 30) (.seq (.ops false [zo (some 2) (.assign (.const (.bool false))) 4]) .ret) .skip))) (.ops false [zo (some 15) (.move (.tmp 4)) 3,zo (some 16) (.binOp .add 3 (.tmp 15) (.const (.int .i64 1)) 3) 3,zo (some 4) (.assign (.tmp 16)) 3]))))))) (.ops false [zo (some 9) (.move (.tmp 3)) 3,zo (some 10) (.binOp .add 3 (.tmp 9) (.const (.int .i64 1)) 3) 3,zo (some 3) (.assign (.tmp 10)) 3])))))) (.seq (.ops false [zo (some 2) (.assign (.const (.bool true))) 4]) .ret)))
def Tryz.s44:SC:=(.seq (.ops false [zo (some 4) (.assign (.const (.int .i64 0))) 3]) (.seq (.seq (.ops false [zo (some 5) (.move (.tmp 1)) 3,zo (some 6) (.binOp .leq 3 (.tmp 5) (.const (.int .i64 0)) 3) 4]) (.cond (.tmp 6) (.seq (.ops false [zo (some 4) (.assign (.const (.int .i64 0))) 3]) .ret) .skip)) (.seq (.ops false [zo (some 7) (.move (.tmp 0)) 3,zo (some 8) (.move (.tmp 1)) 3,zo (some 9) (.binOp .rem 3 (.tmp 7) (.tmp 8) 3) 3,zo (some 10) (.move (.tmp 1)) 3,zo (some 11) (.binOp .add 3 (.tmp 9) (.tmp 10) 3) 3,zo (some 12) (.move (.tmp 1)) 3,zo (some 13) (.binOp .rem 3 (.tmp 11) (.tmp 12) 3) 3,zo (some 4) (.assign (.tmp 13)) 3]) .ret)))
theorem Tryz.s42_eq:Tryz.f42.body.map sOf=some Tryz.s42:=by kernel_rfl
theorem Tryz.s44_eq:Tryz.f44.body.map sOf=some Tryz.s44:=by kernel_rfl
end Go.Proofs

namespace Go.Proofs
open Go Go.RowKit Go.Sim
set_option maxRecDepth 100000
theorem Tryz.ty65:(prg Tryz.prog).ty 65=some ⟨true,(.array 4 3),4,32,.agg #[.int .i64 0,.int .i64 0,.int .i64 0,.int .i64 0]⟩:=by kernel_rfl
attribute [go_sem] Tryz.ty65
end Go.Proofs

namespace Go.Sim
open Go Go.RowKit
theorem AOwn.weak {B C:Nat} {w:AW} {e:TypeId} {size n:Nat} {v:Value} {cells:List Value} (h:AOwn B w e size v n cells) (k:C≤B):AOwn C w e size v n cells:=by
  rcases h with h|⟨b,r,a1,a2,a3,a4,a5,a6,a7,a9,a8⟩
  · exact .inl h
  · exact .inr ⟨b,r,a1,by omega,a3,by omega,a5,a6,a7,a9,fun j hj=>let ⟨x,y⟩:=a8 j hj;⟨by omega,y⟩⟩
end Go.Sim

namespace Go.Proofs
open Go Go.RowKit Go.Sim
set_option maxRecDepth 100000
theorem in_ok (a b:Nat) (ha:a < 4611686018427387904) (hb:b < 4611686018427387904) (w:AW):CallT Tryz.prog Tryz.T1 (.fn (.func 37) #[]) #[.int .i64 (a:Int),.int .i64 (b:Int)] w (Ret (.bool (subB b a)) fun w'=>w=w'):=by
  have han:=and_nat (a:=a) (b:=b) ha hb
  have hd:decide (((a &&& b:Nat):Int)=(a:Int))=subB b a:=by unfold subB;rw [decide_eq_decide,Nat.and_comm];omega
  refine callT_code rfl Tryz.func37 rfl Tryz.s37_eq rfl ?_
  delta Tryz.s37 zo zt zg zh
  simp -dsimp -implicitDefEqProofs (maxSteps:=2000000) (disch:=first|assumption|omega|(simp only [nx];omega)|((repeat refine Fresh.push ?_ _);assumption)|(simp only [smA];done)|(simp [oneCell,AW.next_push];done)|fail) only [go_sem,Nat.reduceEqDiff,reduceIte,Nat.reduceAdd,Tryz.results37,han,hd]
  exact ⟨rfl,rfl⟩
theorem bsQ_00 {e:TypeId} {z:Nat}:bsQ e 0 z [] []=some ([],e,fun n=>.slice (some ⟨n,0,none⟩) 0 0):=rfl
attribute [go_sem] bsQ_00
end Go.Proofs

namespace Go.Proofs
open Go Go.RowKit Go.Sim
set_option maxRecDepth 100000
end Go.Proofs

namespace Go.Proofs
open Go Go.RowKit Go.Sim
set_option maxRecDepth 100000
theorem Tryz.ty135:(prg Tryz.prog).ty 135=some ⟨false,(.slice 77),1,24,.slice none 0 0⟩:=by kernel_rfl
attribute [go_sem] Tryz.ty135
theorem Tryz.ia135 (t:Tmps) (w:AW) (x y:Operand):fast (prg Tryz.prog) t w (.indexAddr 135 x y)=indexV 1 (ev t x) (ev t y):=fast_indexAddr Tryz.ty135 Tryz.ty77
attribute [go_sem] Tryz.ia135
theorem Tryz.ln135 (t:Tmps) (w:AW) (x:Operand):fast (prg Tryz.prog) t w (.call ⟨.builtin .len,⟨[x]⟩,⟨[135]⟩⟩)=lenV (ev t x):=fast_len Tryz.ty135
attribute [go_sem] Tryz.ln135
end Go.Proofs
