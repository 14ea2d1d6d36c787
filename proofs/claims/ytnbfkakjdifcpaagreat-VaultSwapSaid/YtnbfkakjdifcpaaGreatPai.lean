/- This program: its code, contracts, numbers, part 9. -/
import Derived.Test.YtnbfkakjdifcpaaGreatPah
import Derived.Test.YtnbfkakjdifcpaaGreatPag
import Derived.Test.YtnbfkakjdifcpaaGreatPaf
import Derived.Test.YtnbfkakjdifcpaaGreatCz
import Derived.Test.YtnbfkakjdifcpaaGreatNc
import Derived.Test.YtnbfkakjdifcpaaGreatPad
set_option linter.unusedVariables false
set_option linter.unusedSimpArgs false
namespace Go.Proofs
open Go Go.RowKit Go.Sim
set_option maxRecDepth 100000
def susE (s:StrN) (L:List CarI) (bag:Int):Int:=if (runI s L).2.1=0 then (if inR 0 bag 31=true then (if ((logOf L).bag bag.toNat).room=0 then 44 else 0) else 7) else ((runI s L).2.1:Int)
def susN (s:StrN) (L:List CarI) (bag:Int):List Nat:=if susE s L bag=0 then leastN (reachB s ((logOf L).trail bag.toNat)) s.staff.length else []
theorem trail_lt {s:StrN} {x:LogN} (h:LogIn s x) (hk:LogOk x) {i:Nat} (hi:i < 32):x.trail i < 64:=by
  have ht:i < x.trails.length:=by rw [hk.trails];exact hi
  have:x.trail i=x.trails[i]:=by simp [LogN.trail,List.getD,ht]
  rw [this]
  exact h.trail _ (List.getElem_mem ht)
set_option maxHeartbeats 32000000 in
theorem Suspects_ok (s:StrN) (pR pG pS:Option Addr) (cR cG cS:Nat) (pL:Option Addr) (cL:Nat) (L:List CarI) (bag:Int) (w:AW) (f:Fresh w) (hA:StrAt w pR pG pS cR cG cS s) (hL:ArrOf w 8 carIC (.slice pL L.length cL) L) :
    CallT Tryz.prog Tryz.T1 (.fn (.func 35) #[]) #[.agg (strC pR pG pS cR cG cS s).toArray,.slice pL L.length cL,.int .i64 bag] w (fun v w'=>Grown w w'∧∃ u,v=.tuple #[u,.int .i64 (susE s L bag)]∧RowS 3 w.next w' u (susN s L bag)):=by
  have g1:=(Grown.refl f).push (.cells (strC pR pG pS cR cG cS s) 26 w.next 0 0)
  have O1:=Own.new f 26 (strC pR pG pS cR cG cS s)
  obtain ⟨w1,hw1⟩:∃ w1,w.push (.cells (strC pR pG pS cR cG cS s) 26 w.next 0 0)=w1:=⟨_,rfl⟩
  rw [hw1] at g1 O1
  have hld:=loadAll O1 (n:=3) rfl (by simp [strC,oneCell])
  have hls:=fun w' (O:Own w' w.next 26 (strC pR pG pS cR cG cS s))=>loadAll O (n:=3) rfl (by simp [strC,oneCell])
  have hru:=run_ok s pR pG pS cR cG cS pL cL L w1 g1.2 (hA.grown g1) (hL.grown g1)
  have hgr:=fun (hs:strB s=true) (goals:Nat) (hgo:goals < 256) w' (g':Grown w w')=>groupsV_ok hs goals hgo w' g'.2 (hA.grown g')
  have hE:susE s L bag=if (runI s L).2.1=0 then (if inR 0 bag 31=true then (if ((logOf L).bag bag.toNat).room=0 then 44 else 0) else 7) else ((runI s L).2.1:Int):=rfl
  have hN:susN s L bag=if susE s L bag=0 then leastN (reachB s ((logOf L).trail bag.toNat)) s.staff.length else []:=rfl
  have hss:=same_str pR pG pS s.rooms.length s.gates.length s.staff.length cR cG cS
  unfold strC at *
  refine callT_code rfl Tryz.func35 rfl Tryz.s35_eq rfl ?_
  delta Tryz.s35 zo zt zg zh
  simp -dsimp -implicitDefEqProofs (maxSteps:=2000000) (disch:=first|assumption|omega|(simp only [nx];omega)|((repeat refine Fresh.push ?_ _);assumption)|(simp only [smA];done)|(simp [oneCell,AW.next_push];done)|fail) only [go_sem,Nat.reduceEqDiff,reduceIte,Nat.reduceAdd,Tryz.results35,hw1,hld]
  try rw [hw1]
  apply callV_of (e:=rfl)
  · exact hru
  rintro v w2 ⟨g2,hv⟩
  have O12:=O1.keep g2.1
  have gg2:=g1.trans g2
  have hl2:=hls w2 O12
  rcases hv with ⟨he,rfl⟩|⟨he,hat,hs,ha,b,r,hNL,rfl,hLog,hI⟩
  · rw [if_neg he] at hE
    have h0:¬ ((runI s L).2.1:Int)=0:=by omega
    rw [hE,if_neg h0] at hN
    rw [hE,hN]
    generalize (runI s L).2.1=E at *
    generalize (runI s L).1=A at *
    simp -dsimp -implicitDefEqProofs (maxSteps:=2000000) (disch:=first|assumption|omega|(simp only [nx];omega)|((repeat refine Fresh.push ?_ _);assumption)|(simp only [smA];done)|(simp [oneCell,AW.next_push];done)|fail) only [go_sem,Nat.reduceEqDiff,reduceIte,Nat.reduceAdd,Tryz.results35,h0]
    exact ⟨gg2,_,rfl,RowS.nil 3 _ _⟩
  have hX:=(run_log he).2.2
  rw [hX] at hLog hI
  have hk:LogOk (logOf L):=logOf_ok L x0 x0_ok
  rw [if_pos he] at hE
  simp -dsimp -implicitDefEqProofs (maxSteps:=2000000) (disch:=first|assumption|omega|(simp only [nx];omega)|((repeat refine Fresh.push ?_ _);assumption)|(simp only [smA];done)|(simp [oneCell,AW.next_push];done)|fail) only [go_sem,Nat.reduceEqDiff,reduceIte,Nat.reduceAdd,Tryz.results35]
  apply callV_of (e:=rfl)
  · exact isIndex_ok bag 32 (by omega) w2
  rintro _ _ ⟨rfl,rfl⟩
  have e32:(32:Int) - 1=31:=rfl
  rw [e32]
  cases h1:inR 0 bag 31 with
  | false =>
    rw [h1,if_neg (by intro z;cases z)] at hE
    rw [hE,if_neg (by omega)] at hN
    rw [hE,hN]
    simp -dsimp -implicitDefEqProofs (maxSteps:=2000000) (disch:=first|assumption|omega|(simp only [nx];omega)|((repeat refine Fresh.push ?_ _);assumption)|(simp only [smA];done)|(simp [oneCell,AW.next_push];done)|fail) only [go_sem,Nat.reduceEqDiff,reduceIte,Nat.reduceAdd,Tryz.results35]
    exact ⟨gg2,_,rfl,RowS.nil 3 _ _⟩
  | true =>
  rw [h1,if_pos rfl] at hE
  obtain ⟨n,rfl⟩:∃ n:Nat,bag=n:=⟨bag.toNat,by rw [inR_iff] at h1;omega⟩
  have hn:n < 32:=by rw [inR_iff] at h1;omega
  rw [Int.toNat_natCast] at hE hN
  have hcR:=hLog.cell hn 0 (by omega) rfl rfl
  rw [Nat.add_zero] at hcR
  have ht:n < (logOf L).trails.length:=by rw [hk.trails];exact hn
  have hcT:w2.cell? ⟨b,163+n,none⟩=some (.int .i64 ((logOf L).trail n:Int)):=by
    have:=hLog.own.cell (o:=163+n) (log_trail hk ht) rfl
    rw [this]
    simp [LogN.trail,List.getD,ht]
  have htl:=trail_lt hI hk hn
  have hbl:=fun (o z:Nat)=>indexA_eq (z:=z) (len:=32) (b:=b) (o:=o) (k:=.i64) hn
  by_cases hr:((logOf L).bag n).room=0
  · have hrI:(((logOf L).bag n).room:Int)=0:=by omega
    rw [if_pos hr] at hE
    rw [hE,if_neg (by omega)] at hN
    rw [hE,hN]
    simp -dsimp -implicitDefEqProofs (maxSteps:=2000000) (disch:=first|assumption|omega|(simp only [nx];omega)|((repeat refine Fresh.push ?_ _);assumption)|(simp only [smA];done)|(simp [oneCell,AW.next_push];done)|fail) only [go_sem,Nat.reduceEqDiff,reduceIte,Nat.reduceAdd,Tryz.results35,hbl,hcR,hrI,Nat.zero_add]
    exact ⟨gg2,_,rfl,RowS.nil 3 _ _⟩
  have hrI:¬ (((logOf L).bag n).room:Int)=0:=by omega
  rw [if_neg hr] at hE
  rw [hE,if_pos rfl] at hN
  rw [hE,hN]
  have hgr2:=hgr hs ((logOf L).trail n) (by omega) w2 gg2
  have f2:=gg2.2
  have hleW:WLe w2 w2:=(Grown.refl f2).1.wle f2
  generalize (logOf L).trail n=TR at *
  simp -dsimp -implicitDefEqProofs (maxSteps:=2000000) (disch:=first|assumption|omega|(simp only [nx];omega)|((repeat refine Fresh.push ?_ _);assumption)|(simp only [smA];done)|(simp [oneCell,AW.next_push];done)|fail) only [go_sem,Nat.reduceEqDiff,reduceIte,Nat.reduceAdd,Tryz.results35,hbl,hcR,hrI,hl2,hcT,hss,Nat.zero_add,Nat.mul_one]
  apply callV_of (e:=rfl)
  · exact hgr2
  rintro v w3 ⟨g3,hR⟩
  have hle3:WLe w2 w3:=g3.1.wle f2
  obtain ⟨p3,c3,rfl,_⟩:=(RowS.arr hR (by have:=leastN_len (P:=reachB s TR) (str_staff hs).2.1;omega)).open
  have hs3:=same_s12V p3 (natsL (leastN (reachB s TR) s.staff.length)).length c3
  simp -dsimp -implicitDefEqProofs (maxSteps:=2000000) (disch:=first|assumption|omega|(simp only [nx];omega)|((repeat refine Fresh.push ?_ _);assumption)|(simp only [smA];done)|(simp [oneCell,AW.next_push];done)|fail) only [go_sem,Nat.reduceEqDiff,reduceIte,Nat.reduceAdd,Tryz.results35,hle3,hs3]
  exact ⟨gg2.trans g3,_,rfl,AOwn.weak hR gg2.1.next⟩
end Go.Proofs

namespace Go.Proofs
open Go Go.RowKit Go.Sim
set_option maxRecDepth 100000
noncomputable def Tryz.s11r13:Array Oper:=match Tryz.f11.body with
  | some c=>regionAt 13 c
  | none=>#[]
noncomputable def Tryz.s12r25:Array Oper:=match Tryz.f12.body with
  | some c=>regionAt 25 c
  | none=>#[]
noncomputable def Tryz.s12r40:Array Oper:=match Tryz.f12.body with
  | some c=>regionAt 40 c
  | none=>#[]
noncomputable def Tryz.s12r41:Array Oper:=match Tryz.f12.body with
  | some c=>regionAt 41 c
  | none=>#[]
noncomputable def Tryz.s12_c177:SC :=
 (.seq
                 (.ops false [
                   ⟨⟨(some 177),.load 26 (.tmp 3),26, "",⟨[]⟩,none⟩,none,false⟩,
                   ⟨⟨(some 178),.move (.tmp 1),44, "",⟨[]⟩,none⟩,none,false⟩,
                   ⟨⟨(some 179),.call ⟨.value (.func 31),⟨[(.tmp 177),(.tmp 178)]⟩,⟨[26,44]⟩⟩,49, "",⟨[]⟩,none⟩,none,false⟩,
                   ⟨⟨(some 176),.move (.tmp 179),49, "",⟨[]⟩,none⟩,none,false⟩,
                   ⟨⟨(some 180),.extract (.tmp 176) 0,48, "",⟨[]⟩,none⟩,none,false⟩,
                   ⟨⟨(some 181),.extract (.tmp 176) 1, 3, "",⟨[]⟩,none⟩,none,false⟩,
                   ⟨⟨(some 182),.extract (.tmp 176) 2,27, "",⟨[]⟩,none⟩,none,false⟩,
                   ⟨⟨(some 19),.alloc 48, 0, "",⟨[]⟩,none⟩,none,false⟩,
                   ⟨⟨none,.store 48 (.tmp 19) (.tmp 180), 0, "",⟨[]⟩,none⟩,none,false⟩,
                   ⟨⟨(some 20),.assign (.tmp 181), 3, "",⟨[]⟩,none⟩,none,false⟩,
                   ⟨⟨(some 9),.assign (.tmp 182),27, "",⟨[]⟩,none⟩,none,false⟩])
                 (.seq
                  (.seq
                   (.ops false [
                     ⟨⟨(some 183),.move (.tmp 9),27, "",⟨[]⟩,none⟩,none,false⟩,
                     ⟨⟨(some 184),.binOp .neq 27 (.tmp 183) (.const (.int .i64 0)) 27, 4, "",⟨[]⟩,none⟩,none,false⟩,
                     ⟨⟨(some 185),.move (.tmp 184), 4, "",⟨[]⟩,none⟩,none,false⟩,
                     ⟨⟨(some 186),.move (.tmp 1),44, "",⟨[]⟩,none⟩,some ((some 185),false),false⟩,
                     ⟨⟨(some 187),.call ⟨.builtin .len,⟨[(.tmp 186)]⟩,⟨[44]⟩⟩, 3, "",⟨[]⟩,none⟩,some ((some 185),false),false⟩,
                     ⟨⟨(some 188),.binOp .eql 3 (.tmp 187) (.const (.int .i64 0)) 3, 4, "",⟨[]⟩,none⟩,some ((some 185),false),false⟩,
                     ⟨⟨(some 189),.pick (.tmp 185) (.const (.bool true)) (.tmp 188), 4, "",⟨[]⟩,none⟩,none,false⟩])
                   (.cond (.tmp 189)
                    (.seq
                     (.ops false [
                       ⟨⟨(some 6),.assign (.const (.bool false)), 4, "",⟨[]⟩,none⟩,none,false⟩])
                     .ret)
                    .skip))
                  (.seq
                   (.ops false [
                     ⟨⟨(some 190),.indexAddr 65 (.tmp 5) (.const (.int .i64 3)), 0, "",⟨[]⟩,none⟩,none,false⟩,
                     ⟨⟨(some 191),.load 3 (.tmp 190), 3, "",⟨[]⟩,none⟩,none,false⟩,
                     ⟨⟨(some 192),.call ⟨.value (.func 44),⟨[(.tmp 191),(.const (.int .i64 999999))]⟩,⟨[3,3]⟩⟩, 3, "",⟨[]⟩,none⟩,none,false⟩,
                     ⟨⟨(some 193),.binOp .add 3 (.const (.int .i64 1)) (.tmp 192) 3, 3, "",⟨[]⟩,none⟩,none,false⟩,
                     ⟨⟨(some 21),.assign (.tmp 193), 3, "",⟨[]⟩,none⟩,none,false⟩])
                   (.seq
                    (.raw (.region 40 Tryz.s12r40 true))
                    (.seq
                     (.raw (.region 41 Tryz.s12r41 true))
                     (.seq
                      (.seq
                       (.ops false [
                         ⟨⟨(some 224),.move (.tmp 1),44, "",⟨[]⟩,none⟩,none,false⟩,
                         ⟨⟨(some 225),.call ⟨.builtin .len,⟨[(.tmp 224)]⟩,⟨[44]⟩⟩, 3, "",⟨[]⟩,none⟩,none,false⟩,
                         ⟨⟨(some 226),.binOp .geq 3 (.tmp 225) (.const (.int .i64 64)) 3, 4, "",⟨[]⟩,none⟩,none,false⟩])
                       (.cond (.tmp 226)
                        (.seq
                         (.ops false [
                           ⟨⟨(some 227),.move (.tmp 9),27, "",⟨[]⟩,none⟩,none,false⟩,
                           ⟨⟨(some 228),.binOp .eql 27 (.tmp 227) (.const (.int .i64 43)) 27, 4, "",⟨[]⟩,none⟩,none,false⟩,
                           ⟨⟨(some 229),.move (.tmp 228), 4, "",⟨[]⟩,none⟩,none,false⟩,
                           ⟨⟨(some 230),.call ⟨.value (.func 21),⟨[]⟩,⟨[]⟩⟩, 4, "",⟨[]⟩,none⟩,some ((some 229),true),false⟩,
                           ⟨⟨(some 231),.pick (.tmp 229) (.tmp 230) (.const (.bool false)), 4, "",⟨[]⟩,none⟩,none,false⟩,
                           ⟨⟨(some 6),.assign (.tmp 231), 4, "",⟨[]⟩,none⟩,none,false⟩])
                         .ret)
                        .skip))
                      (.seq
                       (.ops false [
                         ⟨⟨(some 232),.move (.tmp 21), 3, "",⟨[]⟩,none⟩,none,false⟩,
                         ⟨⟨(some 233),.move (.tmp 7), 3, "",⟨[]⟩,none⟩,none,false⟩,
                         ⟨⟨(some 234),.indexAddr 48 (.tmp 19) (.tmp 233), 0, "",⟨[]⟩,none⟩,none,false⟩,
                         ⟨⟨(some 235),.fieldAddr 47 (.tmp 234) 1, 0, "",⟨[]⟩,none⟩,none,false⟩,
                         ⟨⟨(some 236),.load 3 (.tmp 235), 3, "",⟨[]⟩,none⟩,none,false⟩,
                         ⟨⟨(some 237),.binOp .eql 3 (.tmp 232) (.tmp 236) 3, 4, "",⟨[]⟩,none⟩,none,false⟩,
                         ⟨⟨(some 238),.move (.tmp 237), 4, "",⟨[]⟩,none⟩,none,false⟩,
                         ⟨⟨(some 239),.move (.tmp 9),27, "",⟨[]⟩,none⟩,some ((some 238),true),false⟩,
                         ⟨⟨(some 240),.binOp .eql 27 (.tmp 239) (.const (.int .i64 0)) 27, 4, "",⟨[]⟩,none⟩,some ((some 238),true),false⟩,
                         ⟨⟨(some 241),.pick (.tmp 238) (.tmp 240) (.const (.bool false)), 4, "",⟨[]⟩,none⟩,none,false⟩,
                         ⟨⟨(some 242),.move (.tmp 241), 4, "",⟨[]⟩,none⟩,none,false⟩,
                         ⟨⟨(some 243),.move (.tmp 21), 3, "",⟨[]⟩,none⟩,some ((some 242),false),false⟩,
                         ⟨⟨(some 244),.move (.tmp 7), 3, "",⟨[]⟩,none⟩,some ((some 242),false),false⟩,
                         ⟨⟨(some 245),.indexAddr 48 (.tmp 19) (.tmp 244), 0, "",⟨[]⟩,none⟩,some ((some 242),false),false⟩,
                         ⟨⟨(some 246),.fieldAddr 47 (.tmp 245) 1, 0, "",⟨[]⟩,none⟩,some ((some 242),false),false⟩,
                         ⟨⟨(some 247),.load 3 (.tmp 246), 3, "",⟨[]⟩,none⟩,some ((some 242),false),false⟩,
                         ⟨⟨(some 248),.binOp .neq 3 (.tmp 243) (.tmp 247) 3, 4, "",⟨[]⟩,none⟩,some ((some 242),false),false⟩,
                         ⟨⟨(some 249),.move (.tmp 248), 4, "",⟨[]⟩,none⟩,some ((some 242),false),false⟩,
                         ⟨⟨(some 250),.move (.tmp 9),27, "",⟨[]⟩,none⟩,some ((some 249),true),false⟩,
                         ⟨⟨(some 251),.binOp .eql 27 (.tmp 250) (.const (.int .i64 48)) 27, 4, "",⟨[]⟩,none⟩,some ((some 249),true),false⟩,
                         ⟨⟨(some 252),.pick (.tmp 249) (.tmp 251) (.const (.bool false)), 4, "",⟨[]⟩,none⟩,some ((some 242),false),false⟩,
                         ⟨⟨(some 253),.move (.tmp 252), 4, "",⟨[]⟩,none⟩,some ((some 242),false),false⟩,
                         ⟨⟨(some 254),.move (.tmp 24), 3, "",⟨[]⟩,none⟩,some ((some 253),true),false⟩,
                         ⟨⟨(some 255),.move (.tmp 1),44, "",⟨[]⟩,none⟩,some ((some 253),true),false⟩,
                         ⟨⟨(some 256),.call ⟨.builtin .len,⟨[(.tmp 255)]⟩,⟨[44]⟩⟩, 3, "",⟨[]⟩,none⟩,some ((some 253),true),false⟩,
                         ⟨⟨(some 257),.binOp .eql 3 (.tmp 254) (.tmp 256) 3, 4, "",⟨[]⟩,none⟩,some ((some 253),true),false⟩,
                         ⟨⟨(some 258),.pick (.tmp 253) (.tmp 257) (.const (.bool false)), 4, "",⟨[]⟩,none⟩,some ((some 242),false),false⟩,
                         ⟨⟨(some 259),.pick (.tmp 242) (.const (.bool true)) (.tmp 258), 4, "",⟨[]⟩,none⟩,none,false⟩,
                         ⟨⟨(some 260),.move (.tmp 259), 4, "",⟨[]⟩,none⟩,none,false⟩,
                         ⟨⟨(some 261),.call ⟨.value (.func 21),⟨[]⟩,⟨[]⟩⟩, 4, "",⟨[]⟩,none⟩,some ((some 260),true),false⟩,
                         ⟨⟨(some 262),.pick (.tmp 260) (.tmp 261) (.const (.bool false)), 4, "",⟨[]⟩,none⟩,none,false⟩,
                         ⟨⟨(some 6),.assign (.tmp 262), 4, "",⟨[]⟩,none⟩,none,false⟩])
                       .ret)))))))
noncomputable def Tryz.s12_c122:SC :=
 (.seq
         (.seq
          (.ops false [
            ⟨⟨(some 122),.move (.tmp 10),24, "",⟨[]⟩,none⟩,none,false⟩,
            ⟨⟨(some 123),.call ⟨.builtin .len,⟨[(.tmp 122)]⟩,⟨[24]⟩⟩, 3, "",⟨[]⟩,none⟩,none,false⟩,
            ⟨⟨(some 124),.binOp .eql 3 (.tmp 123) (.const (.int .i64 0)) 3, 4, "",⟨[]⟩,none⟩,none,false⟩])
          (.cond (.tmp 124)
           (.seq
            (.ops false [
              ⟨⟨(some 6),.assign (.const (.bool false)), 4, "",⟨[]⟩,none⟩,none,false⟩])
            .ret)
           .skip))
         (.seq
          (.ops false [
            ⟨⟨(some 125),.move (.tmp 10),24, "",⟨[]⟩,none⟩,none,false⟩,
            ⟨⟨(some 126),.indexAddr 65 (.tmp 5) (.const (.int .i64 1)), 0, "",⟨[]⟩,none⟩,none,false⟩,
            ⟨⟨(some 127),.load 3 (.tmp 126), 3, "",⟨[]⟩,none⟩,none,false⟩,
            ⟨⟨(some 128),.move (.tmp 10),24, "",⟨[]⟩,none⟩,none,false⟩,
            ⟨⟨(some 129),.call ⟨.builtin .len,⟨[(.tmp 128)]⟩,⟨[24]⟩⟩, 3, "",⟨[]⟩,none⟩,none,false⟩,
            ⟨⟨(some 130),.call ⟨.value (.func 44),⟨[(.tmp 127),(.tmp 129)]⟩,⟨[3,3]⟩⟩, 3, "",⟨[]⟩,none⟩,none,false⟩,
            ⟨⟨(some 131),.indexAddr 24 (.tmp 125) (.tmp 130), 0, "",⟨[]⟩,none⟩,none,false⟩,
            ⟨⟨(some 132),.load 3 (.tmp 131), 3, "",⟨[]⟩,none⟩,none,false⟩,
            ⟨⟨(some 14),.assign (.tmp 132), 3, "",⟨[]⟩,none⟩,none,false⟩])
          (.seq
           (.raw (.region 25 Tryz.s12r25 true))
           (.seq
            (.ops false [
              ⟨⟨(some 142),.load 26 (.tmp 3),26, "",⟨[]⟩,none⟩,none,false⟩,
              ⟨⟨(some 143),.move (.tmp 15), 3, "",⟨[]⟩,none⟩,none,false⟩,
              ⟨⟨(some 144),.call ⟨.value (.func 15),⟨[(.tmp 142),(.tmp 143)]⟩,⟨[26,3]⟩⟩,28, "",⟨[]⟩,none⟩,none,false⟩,
              ⟨⟨(some 141),.move (.tmp 144),28, "",⟨[]⟩,none⟩,none,false⟩,
              ⟨⟨(some 145),.extract (.tmp 141) 0, 3, "",⟨[]⟩,none⟩,none,false⟩,
              ⟨⟨(some 146),.extract (.tmp 141) 1,27, "",⟨[]⟩,none⟩,none,false⟩,
              ⟨⟨(some 16),.assign (.tmp 145), 3, "",⟨[]⟩,none⟩,none,false⟩,
              ⟨⟨(some 9),.assign (.tmp 146),27, "",⟨[]⟩,none⟩,none,false⟩])
            (.seq
             (.seq
              (.ops false [
                ⟨⟨(some 147),.move (.tmp 9),27, "",⟨[]⟩,none⟩,none,false⟩,
                ⟨⟨(some 148),.binOp .neq 27 (.tmp 147) (.const (.int .i64 0)) 27, 4, "",⟨[]⟩,none⟩,none,false⟩,
                ⟨⟨(some 149),.move (.tmp 148), 4, "",⟨[]⟩,none⟩,none,false⟩,
                ⟨⟨(some 150),.move (.tmp 14), 3, "",⟨[]⟩,none⟩,some ((some 149),false),false⟩,
                ⟨⟨(some 151),.call ⟨.value (.func 39),⟨[(.const (.int .i64 0)),(.tmp 150),(.const (.int .i64 5))]⟩,⟨[3,3,3]⟩⟩, 4, "",⟨[]⟩,none⟩,some ((some 149),false),false⟩,
                ⟨⟨(some 152),.unOp .not 4 (.tmp 151), 4, "",⟨[]⟩,none⟩,some ((some 149),false),false⟩,
                ⟨⟨(some 153),.pick (.tmp 149) (.const (.bool true)) (.tmp 152), 4, "",⟨[]⟩,none⟩,none,false⟩])
              (.cond (.tmp 153)
               (.seq
                (.ops false [
                  ⟨⟨(some 6),.assign (.const (.bool false)), 4, "",⟨[]⟩,none⟩,none,false⟩])
                .ret)
               .skip))
             (.seq
              (.ops false [
                ⟨⟨(some 17),.assign (.const (.bool false)), 4, "",⟨[]⟩,none⟩,none,false⟩])
              (.seq
               (.seq
                (.ops false [
                  ⟨⟨(some 18),.assign (.const (.int .i64 0)), 3, "",⟨[]⟩,none⟩,none,false⟩])
                (.block 4
                 (.loop
                  (.seq
                   (.seq
                    (.ops false [
                      ⟨⟨(some 154),.move (.tmp 18), 3, "",⟨[]⟩,none⟩,none,false⟩,
                      ⟨⟨(some 155),.move (.tmp 8),24, "",⟨[]⟩,none⟩,none,false⟩,
                      ⟨⟨(some 156),.call ⟨.builtin .len,⟨[(.tmp 155)]⟩,⟨[24]⟩⟩, 3, "",⟨[]⟩,none⟩,none,false⟩,
                      ⟨⟨(some 157),.binOp .lss 3 (.tmp 154) (.tmp 156) 3, 4, "",⟨[]⟩,none⟩,none,false⟩])
                    (.cond (.tmp 157)
                     .skip
                     (.exit 4)))
                   (.seq
                    (.block 5
                     (.ops false [
                       ⟨⟨(some 160),.move (.tmp 17), 4, "",⟨[]⟩,none⟩,none,false⟩,
                       ⟨⟨(some 161),.move (.tmp 160), 4, "",⟨[]⟩,none⟩,none,false⟩,
                       ⟨⟨(some 162),.move (.tmp 8),24, "",⟨[]⟩,none⟩,some ((some 161),false),false⟩,
                       ⟨⟨(some 163),.move (.tmp 18), 3, "",⟨[]⟩,none⟩,some ((some 161),false),false⟩,
                       ⟨⟨(some 164),.indexAddr 24 (.tmp 162) (.tmp 163), 0, "",⟨[]⟩,none⟩,some ((some 161),false),false⟩,
                       ⟨⟨(some 165),.load 3 (.tmp 164), 3, "",⟨[]⟩,none⟩,some ((some 161),false),false⟩,
                       ⟨⟨(some 166),.move (.tmp 15), 3, "",⟨[]⟩,none⟩,some ((some 161),false),false⟩,
                       ⟨⟨(some 167),.call ⟨.value (.func 37),⟨[(.tmp 165),(.tmp 166)]⟩,⟨[3,3]⟩⟩, 4, "",⟨[]⟩,none⟩,some ((some 161),false),false⟩,
                       ⟨⟨(some 168),.pick (.tmp 161) (.const (.bool true)) (.tmp 167), 4, "",⟨[]⟩,none⟩,none,false⟩,
                       ⟨⟨(some 17),.assign (.tmp 168), 4, "",⟨[]⟩,none⟩,none,false⟩]))
                    (.ops false [
                      ⟨⟨(some 158),.move (.tmp 18), 3, "",⟨[]⟩,none⟩,none,false⟩,
                      ⟨⟨(some 159),.binOp .add 3 (.tmp 158) (.const (.int .i64 1)) 3, 3, "",⟨[]⟩,none⟩,none,false⟩,
                      ⟨⟨(some 18),.assign (.tmp 159), 3, "",⟨[]⟩,none⟩,none,false⟩]))))))
               (.seq
                (.seq
                 (.ops false [
                   ⟨⟨(some 169),.move (.tmp 16), 3, "",⟨[]⟩,none⟩,none,false⟩,
                   ⟨⟨(some 170),.move (.tmp 14), 3, "",⟨[]⟩,none⟩,none,false⟩,
                   ⟨⟨(some 171),.call ⟨.value (.func 40),⟨[(.tmp 169),(.tmp 170)]⟩,⟨[3,3]⟩⟩, 4, "",⟨[]⟩,none⟩,none,false⟩,
                   ⟨⟨(some 172),.move (.tmp 171), 4, "",⟨[]⟩,none⟩,none,false⟩,
                   ⟨⟨(some 173),.move (.tmp 17), 4, "",⟨[]⟩,none⟩,some ((some 172),true),false⟩,
                   ⟨⟨(some 174),.unOp .not 4 (.tmp 173), 4, "",⟨[]⟩,none⟩,some ((some 172),true),false⟩,
                   ⟨⟨(some 175),.pick (.tmp 172) (.tmp 174) (.const (.bool false)), 4, "",⟨[]⟩,none⟩,none,false⟩])
                 (.cond (.tmp 175)
                  (.seq
                   (.ops false [
                     ⟨⟨(some 6),.assign (.const (.bool false)), 4, "",⟨[]⟩,none⟩,none,false⟩])
                   .ret)
                  .skip))
                Tryz.s12_c177))))))))
noncomputable def Tryz.s12 : SC :=
 (.seq
  (.ops false [
    ⟨⟨(some 3),.box 26 (.tmp 0), 0, "",⟨[]⟩,none⟩,none,false⟩,
    ⟨⟨(some 5),.box 65 (.tmp 2), 0, "",⟨[]⟩,none⟩,none,false⟩,
    ⟨⟨(some 6),.assign (.const (.bool false)), 4, "",⟨[]⟩,none⟩,none,false⟩])
  (.seq
   (.ops false [
     ⟨⟨(some 25),.indexAddr 65 (.tmp 5) (.const (.int .i64 0)), 0, "",⟨[]⟩,none⟩,none,false⟩,
     ⟨⟨(some 26),.load 3 (.tmp 25), 3, "",⟨[]⟩,none⟩,none,false⟩,
     ⟨⟨(some 27),.call ⟨.value (.func 44),⟨[(.tmp 26),(.const (.int .i64 32))]⟩,⟨[3,3]⟩⟩, 3, "",⟨[]⟩,none⟩,none,false⟩,
     ⟨⟨(some 7),.assign (.tmp 27), 3, "",⟨[]⟩,none⟩,none,false⟩])
   (.seq
    (.ops false [
      ⟨⟨(some 29),.load 26 (.tmp 3),26, "",⟨[]⟩,none⟩,none,false⟩,
      ⟨⟨(some 30),.move (.tmp 1),44, "",⟨[]⟩,none⟩,none,false⟩,
      ⟨⟨(some 31),.move (.tmp 7), 3, "",⟨[]⟩,none⟩,none,false⟩,
      ⟨⟨(some 32),.call ⟨.value (.func 35),⟨[(.tmp 29),(.tmp 30),(.tmp 31)]⟩,⟨[26,44,3]⟩⟩,37, "",⟨[]⟩,none⟩,none,false⟩,
      ⟨⟨(some 28),.move (.tmp 32),37, "",⟨[]⟩,none⟩,none,false⟩,
      ⟨⟨(some 33),.extract (.tmp 28) 0,24, "",⟨[]⟩,none⟩,none,false⟩,
      ⟨⟨(some 34),.extract (.tmp 28) 1,27, "",⟨[]⟩,none⟩,none,false⟩,
      ⟨⟨(some 8),.assign (.tmp 33),24, "",⟨[]⟩,none⟩,none,false⟩,
      ⟨⟨(some 9),.assign (.tmp 34),27, "",⟨[]⟩,none⟩,none,false⟩])
    (.seq
     (.seq
      (.ops false [
        ⟨⟨(some 35),.move (.tmp 9),27, "",⟨[]⟩,none⟩,none,false⟩,
        ⟨⟨(some 36),.binOp .neq 27 (.tmp 35) (.const (.int .i64 0)) 27, 4, "",⟨[]⟩,none⟩,none,false⟩])
      (.cond (.tmp 36)
       (.seq
        (.ops false [
          ⟨⟨(some 37),.move (.tmp 8),24, "",⟨[]⟩,none⟩,none,false⟩,
          ⟨⟨(some 38),.call ⟨.builtin .len,⟨[(.tmp 37)]⟩,⟨[24]⟩⟩, 3, "",⟨[]⟩,none⟩,none,false⟩,
          ⟨⟨(some 39),.binOp .eql 3 (.tmp 38) (.const (.int .i64 0)) 3, 4, "",⟨[]⟩,none⟩,none,false⟩,
          ⟨⟨(some 40),.move (.tmp 39), 4, "",⟨[]⟩,none⟩,none,false⟩,
          ⟨⟨(some 41),.call ⟨.value (.func 21),⟨[]⟩,⟨[]⟩⟩, 4, "",⟨[]⟩,none⟩,some ((some 40),true),false⟩,
          ⟨⟨(some 42),.pick (.tmp 40) (.tmp 41) (.const (.bool false)), 4, "",⟨[]⟩,none⟩,none,false⟩,
          ⟨⟨(some 6),.assign (.tmp 42), 4, "",⟨[]⟩,none⟩,none,false⟩])
        .ret)
       .skip))
     (.seq
      (.seq
       (.ops false [
         ⟨⟨(some 43),.move (.tmp 8),24, "",⟨[]⟩,none⟩,none,false⟩,
         ⟨⟨(some 44),.call ⟨.value (.func 42),⟨[(.tmp 43)]⟩,⟨[24]⟩⟩, 4, "",⟨[]⟩,none⟩,none,false⟩,
         ⟨⟨(some 45),.unOp .not 4 (.tmp 44), 4, "",⟨[]⟩,none⟩,none,false⟩,
         ⟨⟨(some 46),.move (.tmp 45), 4, "",⟨[]⟩,none⟩,none,false⟩,
         ⟨⟨(some 47),.move (.tmp 8),24, "",⟨[]⟩,none⟩,some ((some 46),false),false⟩,
         ⟨⟨(some 48),.call ⟨.builtin .len,⟨[(.tmp 47)]⟩,⟨[24]⟩⟩, 3, "",⟨[]⟩,none⟩,some ((some 46),false),false⟩,
         ⟨⟨(some 49),.binOp .eql 3 (.tmp 48) (.const (.int .i64 0)) 3, 4, "",⟨[]⟩,none⟩,some ((some 46),false),false⟩,
         ⟨⟨(some 50),.pick (.tmp 46) (.const (.bool true)) (.tmp 49), 4, "",⟨[]⟩,none⟩,none,false⟩])
       (.cond (.tmp 50)
        (.seq
         (.ops false [
           ⟨⟨(some 6),.assign (.const (.bool false)), 4, "",⟨[]⟩,none⟩,none,false⟩])
         .ret)
        .skip))
      (.seq
       (.ops false [
         ⟨⟨(some 10),.assign (.const (.slice none 0 0)),24, "",⟨[]⟩,none⟩,none,false⟩])
       (.seq
        (.seq
         (.ops false [
           ⟨⟨(some 51),.move (.tmp 1),44, "",⟨[]⟩,none⟩,none,false⟩,
           ⟨⟨(some 52),.call ⟨.builtin .len,⟨[(.tmp 51)]⟩,⟨[44]⟩⟩, 3, "",⟨[]⟩,none⟩,none,false⟩,
           ⟨⟨(some 53),.binOp .sub 3 (.tmp 52) (.const (.int .i64 1)) 3, 3, "",⟨[]⟩,none⟩,none,false⟩,
           ⟨⟨(some 11),.assign (.tmp 53), 3, "",⟨[]⟩,none⟩,none,false⟩])
         (.block 0
          (.loop
           (.seq
            (.seq
             (.ops false [
               ⟨⟨(some 54),.move (.tmp 11), 3, "",⟨[]⟩,none⟩,none,false⟩,
               ⟨⟨(some 55),.binOp .geq 3 (.tmp 54) (.const (.int .i64 0)) 3, 4, "",⟨[]⟩,none⟩,none,false⟩])
             (.cond (.tmp 55)
              .skip
              (.exit 0)))
            (.seq
             (.block 1
              (.seq
               (.ops false [
                 ⟨⟨(some 58),.move (.tmp 1),44, "",⟨[]⟩,none⟩,none,false⟩,
                 ⟨⟨(some 59),.move (.tmp 11), 3, "",⟨[]⟩,none⟩,none,false⟩,
                 ⟨⟨(some 60),.indexAddr 44 (.tmp 58) (.tmp 59), 0, "",⟨[]⟩,none⟩,none,false⟩,
                 ⟨⟨(some 61),.load 62 (.tmp 60),62, "",⟨[]⟩,none⟩,none,false⟩,
                 ⟨⟨(some 12),.alloc 62, 0, "",⟨[]⟩,none⟩,none,false⟩,
                 ⟨⟨none,.store 62 (.tmp 12) (.tmp 61), 0, "",⟨[]⟩,none⟩,none,false⟩])
               (.seq
                (.seq
                 (.ops false [
                   ⟨⟨(some 62),.fieldAddr 62 (.tmp 12) 2, 0, "",⟨[]⟩,none⟩,none,false⟩,
                   ⟨⟨(some 63),.load 3 (.tmp 62), 3, "",⟨[]⟩,none⟩,none,false⟩,
                   ⟨⟨(some 64),.move (.tmp 7), 3, "",⟨[]⟩,none⟩,none,false⟩,
                   ⟨⟨(some 65),.binOp .neq 3 (.tmp 63) (.tmp 64) 3, 4, "",⟨[]⟩,none⟩,none,false⟩])
                 (.cond (.tmp 65)
                  (.exit 1)
                  .skip))
                (.seq
                 (.seq
                  (.ops false [
                    ⟨⟨(some 66),.fieldAddr 62 (.tmp 12) 1, 0, "",⟨[]⟩,none⟩,none,false⟩,
                    ⟨⟨(some 67),.load 3 (.tmp 66), 3, "",⟨[]⟩,none⟩,none,false⟩,
                    ⟨⟨(some 68),.binOp .eql 3 (.tmp 67) (.const (.int .i64 1)) 3, 4, "",⟨[]⟩,none⟩,none,false⟩,
                    ⟨⟨(some 69),.move (.tmp 68), 4, "",⟨[]⟩,none⟩,none,false⟩,
                    ⟨⟨(some 70),.fieldAddr 62 (.tmp 12) 1, 0, "",⟨[]⟩,none⟩,some ((some 69),false),false⟩,
                    ⟨⟨(some 71),.load 3 (.tmp 70), 3, "",⟨[]⟩,none⟩,some ((some 69),false),false⟩,
                    ⟨⟨(some 72),.binOp .eql 3 (.tmp 71) (.const (.int .i64 2)) 3, 4, "",⟨[]⟩,none⟩,some ((some 69),false),false⟩,
                    ⟨⟨(some 73),.pick (.tmp 69) (.const (.bool true)) (.tmp 72), 4, "",⟨[]⟩,none⟩,none,false⟩])
                  (.cond (.tmp 73)
                   (.ops false [
                     ⟨⟨(some 74),.move (.tmp 10),24, "",⟨[]⟩,none⟩,none,false⟩,
                     ⟨⟨(some 75),.fieldAddr 62 (.tmp 12) 3, 0, "",⟨[]⟩,none⟩,none,false⟩,
                     ⟨⟨(some 76),.load 3 (.tmp 75), 3, "",⟨[]⟩,none⟩,none,false⟩,
                     ⟨⟨(some 77),.buildSlice 24 1 ⟨[(0,(.tmp 76))]⟩,24, "",⟨[]⟩,none⟩,none,false⟩,
                     ⟨⟨(some 78),.call ⟨.builtin .append,⟨[(.tmp 74),(.tmp 77)]⟩,⟨[24,24]⟩⟩,24, "",⟨[]⟩,none⟩,none,false⟩,
                     ⟨⟨(some 10),.assign (.tmp 78),24, "",⟨[]⟩,none⟩,none,false⟩])
                   .skip))
                 (.seq
                  (.ops false [
                    ⟨⟨(some 79),.fieldAddr 62 (.tmp 12) 1, 0, "",⟨[]⟩,none⟩,none,false⟩,
                    ⟨⟨(some 80),.load 3 (.tmp 79), 3, "",⟨[]⟩,none⟩,none,false⟩,
                    ⟨⟨(some 81),.binOp .neq 3 (.tmp 80) (.const (.int .i64 2)) 3, 4, "",⟨[]⟩,none⟩,none,false⟩])
                  (.cond (.tmp 81)
                   (.seq
                    (.seq
                     (.ops false [
                       ⟨⟨(some 82),.fieldAddr 62 (.tmp 12) 1, 0, "",⟨[]⟩,none⟩,none,false⟩,
                       ⟨⟨(some 83),.load 3 (.tmp 82), 3, "",⟨[]⟩,none⟩,none,false⟩,
                       ⟨⟨(some 84),.binOp .neq 3 (.tmp 83) (.const (.int .i64 1)) 3, 4, "",⟨[]⟩,none⟩,none,false⟩])
                     (.cond (.tmp 84)
                      (.seq
                       (.ops false [
                         ⟨⟨(some 85),.move (.tmp 11), 3, "",⟨[]⟩,none⟩,none,false⟩,
                         ⟨⟨(some 86),.binOp .sub 3 (.tmp 85) (.const (.int .i64 1)) 3, 3, "",⟨[]⟩,none⟩,none,false⟩,
                         ⟨⟨(some 13),.assign (.tmp 86), 3, "",⟨[]⟩,none⟩,none,false⟩])
                       (.block 2
                        (.loop
                         (.seq
                          (.seq
                           (.ops false [
                             ⟨⟨(some 87),.move (.tmp 13), 3, "",⟨[]⟩,none⟩,none,false⟩,
                             ⟨⟨(some 88),.binOp .geq 3 (.tmp 87) (.const (.int .i64 0)) 3, 4, "",⟨[]⟩,none⟩,none,false⟩])
                           (.cond (.tmp 88)
                            .skip
                            (.exit 2)))
                          (.seq
                           (.block 3
                            (.seq
                             (.ops false [
                               ⟨⟨(some 91),.move (.tmp 1),44, "",⟨[]⟩,none⟩,none,false⟩,
                               ⟨⟨(some 92),.move (.tmp 13), 3, "",⟨[]⟩,none⟩,none,false⟩,
                               ⟨⟨(some 93),.indexAddr 44 (.tmp 91) (.tmp 92), 0, "",⟨[]⟩,none⟩,none,false⟩,
                               ⟨⟨(some 94),.fieldAddr 62 (.tmp 93) 2, 0, "",⟨[]⟩,none⟩,none,false⟩,
                               ⟨⟨(some 95),.load 3 (.tmp 94), 3, "",⟨[]⟩,none⟩,none,false⟩,
                               ⟨⟨(some 96),.move (.tmp 7), 3, "",⟨[]⟩,none⟩,none,false⟩,
                               ⟨⟨(some 97),.binOp .eql 3 (.tmp 95) (.tmp 96) 3, 4, "",⟨[]⟩,none⟩,none,false⟩,
                               ⟨⟨(some 98),.move (.tmp 97), 4, "",⟨[]⟩,none⟩,none,false⟩,
                               ⟨⟨(some 99),.move (.tmp 1),44, "",⟨[]⟩,none⟩,some ((some 98),true),false⟩,
                               ⟨⟨(some 100),.move (.tmp 13), 3, "",⟨[]⟩,none⟩,some ((some 98),true),false⟩,
                               ⟨⟨(some 101),.indexAddr 44 (.tmp 99) (.tmp 100), 0, "",⟨[]⟩,none⟩,some ((some 98),true),false⟩,
                               ⟨⟨(some 102),.fieldAddr 62 (.tmp 101) 1, 0, "",⟨[]⟩,none⟩,some ((some 98),true),false⟩,
                               ⟨⟨(some 103),.load 3 (.tmp 102), 3, "",⟨[]⟩,none⟩,some ((some 98),true),false⟩,
                               ⟨⟨(some 104),.binOp .eql 3 (.tmp 103) (.const (.int .i64 1)) 3, 4, "",⟨[]⟩,none⟩,some ((some 98),true),false⟩,
                               ⟨⟨(some 105),.move (.tmp 104), 4, "",⟨[]⟩,none⟩,some ((some 98),true),false⟩,
                               ⟨⟨(some 106),.move (.tmp 1),44, "",⟨[]⟩,none⟩,some ((some 105),false),false⟩,
                               ⟨⟨(some 107),.move (.tmp 13), 3, "",⟨[]⟩,none⟩,some ((some 105),false),false⟩,
                               ⟨⟨(some 108),.indexAddr 44 (.tmp 106) (.tmp 107), 0, "",⟨[]⟩,none⟩,some ((some 105),false),false⟩,
                               ⟨⟨(some 109),.fieldAddr 62 (.tmp 108) 1, 0, "",⟨[]⟩,none⟩,some ((some 105),false),false⟩,
                               ⟨⟨(some 110),.load 3 (.tmp 109), 3, "",⟨[]⟩,none⟩,some ((some 105),false),false⟩,
                               ⟨⟨(some 111),.binOp .eql 3 (.tmp 110) (.const (.int .i64 2)) 3, 4, "",⟨[]⟩,none⟩,some ((some 105),false),false⟩,
                               ⟨⟨(some 112),.pick (.tmp 105) (.const (.bool true)) (.tmp 111), 4, "",⟨[]⟩,none⟩,some ((some 98),true),false⟩,
                               ⟨⟨(some 113),.pick (.tmp 98) (.tmp 112) (.const (.bool false)), 4, "",⟨[]⟩,none⟩,none,false⟩])
                             (.cond (.tmp 113)
                              (.seq
                               (.ops false [
                                 ⟨⟨(some 114),.move (.tmp 10),24, "",⟨[]⟩,none⟩,none,false⟩,
                                 ⟨⟨(some 115),.move (.tmp 1),44, "",⟨[]⟩,none⟩,none,false⟩,
                                 ⟨⟨(some 116),.move (.tmp 13), 3, "",⟨[]⟩,none⟩,none,false⟩,
                                 ⟨⟨(some 117),.indexAddr 44 (.tmp 115) (.tmp 116), 0, "",⟨[]⟩,none⟩,none,false⟩,
                                 ⟨⟨(some 118),.fieldAddr 62 (.tmp 117) 3, 0, "",⟨[]⟩,none⟩,none,false⟩,
                                 ⟨⟨(some 119),.load 3 (.tmp 118), 3, "",⟨[]⟩,none⟩,none,false⟩,
                                 ⟨⟨(some 120),.buildSlice 24 1 ⟨[(0,(.tmp 119))]⟩,24, "",⟨[]⟩,none⟩,none,false⟩,
                                 ⟨⟨(some 121),.call ⟨.builtin .append,⟨[(.tmp 114),(.tmp 120)]⟩,⟨[24,24]⟩⟩,24, "",⟨[]⟩,none⟩,none,false⟩,
                                 ⟨⟨(some 10),.assign (.tmp 121),24, "",⟨[]⟩,none⟩,none,false⟩])
                               (.exit 2))
                              .skip)))
                           (.ops false [
                             ⟨⟨(some 89),.move (.tmp 13), 3, "",⟨[]⟩,none⟩,none,false⟩,
                             ⟨⟨(some 90),.binOp .sub 3 (.tmp 89) (.const (.int .i64 1)) 3, 3, "",⟨[]⟩,none⟩,none,false⟩,
                             ⟨⟨(some 13),.assign (.tmp 90), 3, "",⟨[]⟩,none⟩,none,false⟩]))))))
                      .skip))
                    (.exit 0))
                   .skip))))))
             (.ops false [
               ⟨⟨(some 56),.move (.tmp 11), 3, "",⟨[]⟩,none⟩,none,false⟩,
               ⟨⟨(some 57),.binOp .sub 3 (.tmp 56) (.const (.int .i64 1)) 3, 3, "",⟨[]⟩,none⟩,none,false⟩,
               ⟨⟨(some 11),.assign (.tmp 57), 3, "",⟨[]⟩,none⟩,none,false⟩]))))))
        Tryz.s12_c122)))))))
def Tryz.x12r25:List XOp:=[
  ⟨⟨⟨(some 133),.indexAddr 65 (.tmp 5) (.const (.int .i64 2)), 0, "",⟨[]⟩,none⟩,none,false⟩,0,0,false,none⟩,
  ⟨⟨⟨(some 134),.load 3 (.tmp 133), 3, "",⟨[]⟩,none⟩,none,false⟩,1,0,false,some (3,(.tmp 133))⟩,
  ⟨⟨⟨(some 135),.fieldAddr 26 (.tmp 3) 2, 0, "",⟨[]⟩,none⟩,none,false⟩,2,0,false,none⟩,
  ⟨⟨⟨(some 136),.load 24 (.tmp 135),24, "",⟨[]⟩,none⟩,none,false⟩,3,0,false,some (24,(.tmp 135))⟩,
  ⟨⟨⟨(some 137),.call ⟨.builtin .len,⟨[(.tmp 136)]⟩,⟨[24]⟩⟩, 3, "",⟨[]⟩,none⟩,none,false⟩,4,1,false,none⟩,
  ⟨⟨⟨(some 138),.call ⟨.builtin .min,⟨[(.const (.int .i64 6)),(.tmp 137)]⟩,⟨[3,3]⟩⟩, 3, "",⟨[]⟩,none⟩,none,false⟩,5,1,false,none⟩,
  ⟨⟨⟨(some 139),.binOp .shl 3 (.const (.int .i64 1)) (.tmp 138) 3, 3, "",⟨[]⟩,none⟩,none,false⟩,6,0,false,none⟩,
  ⟨⟨⟨(some 140),.call ⟨.value (.func 44),⟨[(.tmp 134),(.tmp 139)]⟩,⟨[3,3]⟩⟩, 3, "",⟨[]⟩,none⟩,none,false⟩,7,127,true,none⟩,
  ⟨⟨⟨(some 15),.assign (.tmp 140), 3, "",⟨[]⟩,none⟩,none,false⟩,8,0,false,none⟩]
def Tryz.x12r40:List XOp:=[
  ⟨⟨⟨(some 194),.move (.tmp 1),44, "",⟨[]⟩,none⟩,none,false⟩,0,0,false,none⟩,
  ⟨⟨⟨(some 195),.move (.tmp 1),44, "",⟨[]⟩,none⟩,none,false⟩,1,0,false,none⟩,
  ⟨⟨⟨(some 196),.call ⟨.builtin .len,⟨[(.tmp 195)]⟩,⟨[44]⟩⟩, 3, "",⟨[]⟩,none⟩,none,false⟩,2,1,false,none⟩,
  ⟨⟨⟨(some 197),.binOp .sub 3 (.tmp 196) (.const (.int .i64 1)) 3, 3, "",⟨[]⟩,none⟩,none,false⟩,3,0,false,none⟩,
  ⟨⟨⟨(some 198),.indexAddr 44 (.tmp 194) (.tmp 197), 0, "",⟨[]⟩,none⟩,none,false⟩,4,0,false,none⟩,
  ⟨⟨⟨(some 199),.fieldAddr 62 (.tmp 198) 0, 0, "",⟨[]⟩,none⟩,none,false⟩,5,0,false,none⟩,
  ⟨⟨⟨(some 200),.load 3 (.tmp 199), 3, "",⟨[]⟩,none⟩,none,false⟩,6,0,false,some (3,(.tmp 199))⟩,
  ⟨⟨⟨(some 201),.move (.tmp 7), 3, "",⟨[]⟩,none⟩,none,false⟩,7,0,false,none⟩,
  ⟨⟨⟨(some 202),.move (.tmp 7), 3, "",⟨[]⟩,none⟩,none,false⟩,8,0,false,none⟩,
  ⟨⟨⟨(some 203),.indexAddr 48 (.tmp 19) (.tmp 202), 0, "",⟨[]⟩,none⟩,none,false⟩,9,0,false,none⟩,
  ⟨⟨⟨(some 204),.fieldAddr 47 (.tmp 203) 3, 0, "",⟨[]⟩,none⟩,none,false⟩,10,0,false,none⟩,
  ⟨⟨⟨(some 205),.load 3 (.tmp 204), 3, "",⟨[]⟩,none⟩,none,false⟩,11,0,false,some (3,(.tmp 204))⟩,
  ⟨⟨⟨(some 206),.move (.tmp 7), 3, "",⟨[]⟩,none⟩,none,false⟩,12,0,false,none⟩,
  ⟨⟨⟨(some 207),.indexAddr 48 (.tmp 19) (.tmp 206), 0, "",⟨[]⟩,none⟩,none,false⟩,13,0,false,none⟩,
  ⟨⟨⟨(some 208),.fieldAddr 47 (.tmp 207) 4, 0, "",⟨[]⟩,none⟩,none,false⟩,14,0,false,none⟩,
  ⟨⟨⟨(some 209),.load 3 (.tmp 208), 3, "",⟨[]⟩,none⟩,none,false⟩,15,0,false,some (3,(.tmp 208))⟩,
  ⟨⟨⟨(some 210),.move (.tmp 21), 3, "",⟨[]⟩,none⟩,none,false⟩,16,0,false,none⟩,
  ⟨⟨⟨(some 211),.build 62 ⟨[(0,(.tmp 200)),(1,(.const (.int .i64 3))),(2,(.tmp 201)),(4,(.tmp 205)),(5,(.tmp 209)),(6,(.tmp 210))]⟩,62, "",⟨[]⟩,none⟩,none,false⟩,17,1,false,none⟩,
  ⟨⟨⟨(some 22),.alloc 62, 0, "",⟨[]⟩,none⟩,none,false⟩,18,0,false,none⟩,
  ⟨⟨⟨none,.store 62 (.tmp 22) (.tmp 211), 0, "",⟨[]⟩,none⟩,none,false⟩,19,524287,true,none⟩]
def Tryz.x12r41:List XOp:=[
  ⟨⟨⟨(some 213),.load 26 (.tmp 3),26, "",⟨[]⟩,none⟩,none,false⟩,0,0,false,some (26,(.tmp 3))⟩,
  ⟨⟨⟨(some 214),.buildSlice 44 0 ⟨[]⟩,44, "",⟨[]⟩,none⟩,none,false⟩,1,0,false,none⟩,
  ⟨⟨⟨(some 215),.move (.tmp 1),44, "",⟨[]⟩,none⟩,none,false⟩,2,0,false,none⟩,
  ⟨⟨⟨(some 217),.load 62 (.tmp 22),62, "",⟨[]⟩,none⟩,none,false⟩,4,0,false,some (62,(.tmp 22))⟩,
  ⟨⟨⟨(some 218),.buildSlice 44 1 ⟨[(0,(.tmp 217))]⟩,44, "",⟨[]⟩,none⟩,none,false⟩,5,0,false,none⟩,
  ⟨⟨⟨(some 23),.alloc 48, 0, "",⟨[]⟩,none⟩,none,false⟩,12,0,false,none⟩,
  ⟨⟨⟨(some 216),.call ⟨.builtin .append,⟨[(.tmp 214),(.tmp 215)]⟩,⟨[44,44]⟩⟩,44, "",⟨[]⟩,none⟩,none,false⟩,3,6,true,none⟩,
  ⟨⟨⟨(some 219),.call ⟨.builtin .append,⟨[(.tmp 216),(.tmp 218)]⟩,⟨[44,44]⟩⟩,44, "",⟨[]⟩,none⟩,none,false⟩,6,62,true,none⟩,
  ⟨⟨⟨(some 220),.call ⟨.value (.func 31),⟨[(.tmp 213),(.tmp 219)]⟩,⟨[26,44]⟩⟩,49, "",⟨[]⟩,none⟩,none,false⟩,7,127,true,none⟩,
  ⟨⟨⟨(some 212),.move (.tmp 220),49, "",⟨[]⟩,none⟩,none,false⟩,8,0,false,none⟩,
  ⟨⟨⟨(some 221),.extract (.tmp 212) 0,48, "",⟨[]⟩,none⟩,none,false⟩,9,0,false,none⟩,
  ⟨⟨⟨(some 222),.extract (.tmp 212) 1, 3, "",⟨[]⟩,none⟩,none,false⟩,10,0,false,none⟩,
  ⟨⟨⟨(some 223),.extract (.tmp 212) 2,27, "",⟨[]⟩,none⟩,none,false⟩,11,0,false,none⟩,
  ⟨⟨⟨none,.store 48 (.tmp 23) (.tmp 221), 0, "",⟨[]⟩,none⟩,none,false⟩,13,5119,true,none⟩,
  ⟨⟨⟨(some 24),.assign (.tmp 222), 3, "",⟨[]⟩,none⟩,none,false⟩,14,0,false,none⟩,
  ⟨⟨⟨(some 9),.assign (.tmp 223),27, "",⟨[]⟩,none⟩,none,false⟩,15,0,false,none⟩]
theorem Tryz.s12_eq:Tryz.f12.body.map (sOfX [25,40,41])=some Tryz.s12:=by kernel_rfl
theorem Tryz.x12r25_eq:xRegion Tryz.s12r25=some Tryz.x12r25:=by kernel_rfl
theorem Tryz.x12r25_kinds:xkinds Tryz.x12r25=true:=by kernel_rfl
theorem Tryz.x12r40_eq:xRegion Tryz.s12r40=some Tryz.x12r40:=by kernel_rfl
theorem Tryz.x12r40_kinds:xkinds Tryz.x12r40=true:=by kernel_rfl
theorem Tryz.x12r41_eq:xRegion Tryz.s12r41=some Tryz.x12r41:=by kernel_rfl
theorem Tryz.x12r41_kinds:xkinds Tryz.x12r41=true:=by kernel_rfl
end Go.Proofs

namespace Go.Sim
open Go Go.RowKit
def RestW (P:Program) (told:ToldF) (F:Tmps→AW→Prop) (env:Env) (c:SC) (ds:List DI) (Q:Post):Prop:=∀ t w,F t w→CodeR P told env c t ds w Q .mk
theorem joinW {P:Program} {told:ToldF} {G:Prop} {F:Tmps→AW→Prop} {env:Env} {c:SC} {ds:List DI} {Q:Post} (mainC:RestW P told F env c ds Q→G) (restC:RestW P told F env c ds Q):G:=mainC restC
theorem joinW_use {P:Program} {told:ToldF} {F:Tmps→AW→Prop} {env:Env} {c:SC} {t:Tmps} {ds:List DI} {w:AW} {Q:Post} {x:Tok (c,t,ds,w,Q)} (h:RestW P told F env c ds Q) (k:F t w):CodeR P told env c t ds w Q x:=h t w k
end Go.Sim

namespace Go.Proofs
open Go Go.RowKit Go.Sim
set_option maxRecDepth 100000
theorem same_ints10P:∀ l:List Value,(∀ v ∈ l,∃ n,v=.int .i64 n)→same.all 10 l l=true
  | [],_=>rfl
  | v :: l,h=>by
    obtain ⟨n,rfl⟩:=h v List.mem_cons_self
    rw [same.all,same_ints10P l fun v hv=>h v (List.mem_cons_of_mem _ hv)]
    simp [same,intEq_eq]
attribute [go_sem] Tryz.ty48 Tryz.ty107 Tryz.ty111
attribute [-go_sem] Tryz.ty48 Tryz.ty107 Tryz.ty111
end Go.Proofs

namespace Go.Proofs
open Go Go.RowKit Go.Sim
set_option maxRecDepth 100000
theorem Tryz.bs44x0 (t:Tmps) (l:List (Nat × Operand)):makes (prg Tryz.prog) t (.buildSlice 44 0 ⟨l⟩)=bsQ 62 0 8 [] (l.map fun p=>(p.1,ev t p.2)):=makes_bs Tryz.ty44 Tryz.ty62 rfl (by kernel_rfl)
theorem Tryz.bs44x1 (t:Tmps) (l:List (Nat × Operand)):makes (prg Tryz.prog) t (.buildSlice 44 1 ⟨l⟩)=bsQ 62 1 8 [.int .i64 0,.int .i64 0,.int .i64 0,.int .i64 0,.int .i64 0,.int .i64 0,.int .i64 0,.int .i64 0] (l.map fun p=>(p.1,ev t p.2)):=makes_bs Tryz.ty44 Tryz.ty62 rfl (by kernel_rfl)
theorem bsQ_18 {ty:TypeId} (a b c d e f g h:Int):bsQ ty 1 8 [.int .i64 0,.int .i64 0,.int .i64 0,.int .i64 0,.int .i64 0,.int .i64 0,.int .i64 0,.int .i64 0] [(0,.agg #[.int .i64 a,.int .i64 b,.int .i64 c,.int .i64 d,.int .i64 e,.int .i64 f,.int .i64 g,.int .i64 h])]=some ([.int .i64 a,.int .i64 b,.int .i64 c,.int .i64 d,.int .i64 e,.int .i64 f,.int .i64 g,.int .i64 h],ty,fun n=>.slice (some ⟨n,0,none⟩) 1 1):=by kernel_rfl
attribute [go_sem] Tryz.bs44x0 Tryz.bs44x1 bsQ_18
attribute [go_sem] Tryz.ty48 Tryz.ty107 Tryz.ty111
attribute [-go_sem] Tryz.ty48 Tryz.ty107 Tryz.ty111
theorem playI_len (s:StrN) (L:List CarI):(playI s L).1.length=32:=by
  unfold playI
  split
  · rename_i q
    rw [(run_log q).2.2]
    have:=(logOf_ok L x0 x0_ok).bags
    unfold logOf;exact this
  · rfl
theorem playI_cells (s:StrN) (L:List CarI):((playI s L).1.flatMap bagC).length=160:=by rw [flat_len bagC_len,playI_len]
set_option maxHeartbeats 64000000 in
theorem swap_c {s:StrN} {pR pG pS:Option Addr} {cR cG cS:Nat} {pL:Option Addr} {cL:Nat} {L:List CarI} (hrun:(runI s L).2.1=0) (hL0:L ≠ []) (kb:Nat) (hkb:kb < 32) (hroom:((logOf L).bag kb).room ≠ 0) (n0 n1 n2 n3:Int) (w:AW) (hA:StrAt w pR pG pS cR cG cS s) (hL:ArrOf w 8 carIC (.slice pL L.length cL) L) (b0 b1:Nat) (t:Tmps) (w2:AW) (g2:Grown w w2)
    (O2:Own w2 b0 26 (strC pR pG pS cR cG cS s)) (N2:Own w2 b1 65 [.int .i64 n0,.int .i64 n1,.int .i64 n2,.int .i64 n3]) (e1:ev t (.tmp 1)=.slice pL L.length cL) (e3:ev t (.tmp 3)=.pointer (some ⟨b0,0,none⟩)) (e5:ev t (.tmp 5)=.pointer (some ⟨b1,0,none⟩)) (e7:ev t (.tmp 7)=.int .i64 (kb:Int)) :
    CodeR Tryz.prog Tryz.T1 { fn:=12,round:=none } Tryz.s12_c177 t [] w2 (fun e t ds w'=>Sim.Left (P:=Tryz.prog) Tryz.f12.results.toList e t ds w' fun v _=>v=.bool true) .mk:=by
  obtain ⟨hs,ha,hru⟩:=run_log hrun
  have h64L:L.length≤64:=by unfold areB at ha;rw [Bool.and_eq_true] at ha;exact of_decide_eq_true ha.1
  have hpl:playI s L=((logOf L).bags,L.length,0):=by unfold playI;rw [if_pos hrun,hru]
  have hP:=Play_ok s pR pG pS cR cG cS pL cL L w2 g2.2 (hA.grown g2) (hL.grown g2)
  have hcl:=playI_cells s L
  rw [hpl] at hP hcl
  simp only [Int.natCast_zero] at hP
  have hls:=fun w' (O:Own w' b0 26 (strC pR pG pS cR cG cS s))=>loadAll O (n:=3) rfl (by simp [strC,oneCell])
  have hl2:=hls w2 O2
  have h0l:(shelf0.flatMap bagC).length=160:=by rw [flat_len bagC_len];rfl
  have hone:∀ L:List BagN,(L.flatMap bagC).all oneCell=true:=fun L=>List.all_eq_true.2 (bags_one L)
  have hk:LogOk (logOf L):=logOf_ok L x0 x0_ok
  have hss:=same_str pR pG pS s.rooms.length s.gates.length s.staff.length cR cG cS
  unfold strC at *
  delta Tryz.s12_c177 zo zt zg zh
  simp -dsimp -implicitDefEqProofs (maxSteps:=2000000) (disch:=first|assumption|omega|(simp only [nx];omega)|((repeat refine Fresh.push ?_ _);assumption)|(simp only [smA];done)|(simp [oneCell,AW.next_push];done)|fail) only [go_sem,Nat.reduceEqDiff,reduceIte,Nat.reduceAdd,Tryz.results12,e1,e3,e5,e7,hl2]
  apply callV_of (e:=rfl)
  · exact hP
  rintro _ w3 ⟨rfl,g3⟩
  have gg3:=g2.trans g3
  have O3:=O2.keep g3.1
  have N3:=N2.keep g3.1
  have f3:=gg3.2
  have hge2:=g2.1.next
  have hge3:=gg3.1.next
  have OB4:=Own.new f3 48 (shelf0.flatMap bagC)
  have g4:=(Grown.refl f3).push (.cells (shelf0.flatMap bagC) 48 w3.next 0 0)
  have hn4:(w3.push (.cells (shelf0.flatMap bagC) 48 w3.next 0 0)).next=w3.next+1:=AW.next_push _ _
  obtain ⟨w4,hw4⟩:∃ w4,w3.push (.cells (shelf0.flatMap bagC) 48 w3.next 0 0)=w4:=⟨_,rfl⟩
  rw [hw4] at OB4 g4 hn4
  obtain ⟨w5,st5,OB5,m5,hn5⟩:=store_new (n:=160) g4.2 OB4 h0l hcl (by omega) (hone _)
  have g35:Grown w3 w5:=⟨g4.1.trans (m5.keep (fun j q=>by have:j=w3.next:=q;omega) g4.1.next),m5.fresh⟩
  have gg5:=gg3.trans g35
  have O5:=O3.keep g35.1
  have N5:=N3.keep g35.1
  have f5:=gg5.2
  have d3:=N5.cell (o:=3) (v:=.int .i64 n3) rfl rfl
  have hix3:∀ (b o:Nat),indexA 1 4 (.pointer (some ⟨b,o,none⟩)) (.int .i64 3)=some (.pointer (some ⟨b,o+3,none⟩)):=fun b o=>indexA_eq (i:=3) (by decide)
  have ia65:∀ (t:Tmps) (w:AW) (x y:Operand),fast (prg Tryz.prog) t w (.indexAddr 65 x y)=indexA 1 4 (ev t x) (ev t y):=fun t w x y=>fast_indexAddrA Tryz.ty65 Tryz.ty3
  obtain ⟨m,hm⟩:∃ m,L.length=m+1:=⟨L.length - 1,by have:=List.length_pos_iff.2 hL0;omega⟩
  have hmL:m < L.length:=by omega
  have hm1:(L.length:Int) - 1=(m:Int):=by omega
  have hmI:(m:Int) < (L.length:Int):=by omega
  have hday:(L.getLast?).elim 0 CarI.day=L[m].day:=by
    rw [List.getLast?_eq_getElem?,show L.length - 1=m by omega,List.getElem?_eq_getElem hmL];rfl
  obtain ⟨_,_,ex,hcap1,hcap2,hat⟩:=hL.open
  injection ex with ex1 ex2 ex3
  subst ex1 ex3
  obtain ⟨b8,o8,rfl,hb8,hcell⟩:=hat m hmL
  have kD:=hcell w5 gg5.1 0 _ rfl
  rw [Nat.add_zero] at kD
  have hX:=hk.bags
  have hbg:=LogN.bag_get hk hkb
  have bc:=fun (fl:Nat) (hfl:fl < 5) (v:Value) (hv:(bagC ((logOf L).bag kb))[fl]? = some v) (h1:oneCell v=true) w' (O:Own w' w3.next 48 ((logOf L).bags.flatMap bagC))=>O.cell (o:=kb * 5+fl) (v:=v) (by rw [flatMap_get bagC_len (logOf L).bags kb fl _ (List.getElem?_eq_getElem (by omega)) hfl,← hbg];exact hv) h1
  have c3:=bc 3 (by omega) _ rfl rfl w5 OB5
  have c4:=bc 4 (by omega) _ rfl rfl w5 OB5
  have hbl:=fun (b o z:Nat)=>indexA_eq (z:=z) (len:=32) (b:=b) (o:=o) (k:=.i64) hkb
  obtain ⟨sl,hsl⟩:∃ sl:Nat,(1:Int)+n3 % 999999=(sl:Int):=⟨(1+n3 % 999999).toNat,by have:=Int.emod_nonneg n3 (b:=999999) (by omega);omega⟩
  have hsl1:1≤sl∧sl≤999999:=by have:=Int.emod_nonneg n3 (b:=999999) (by omega);have:=Int.emod_lt_of_pos n3 (b:=999999) (by omega);omega
  obtain ⟨r1,r2,r3⟩:=chk_run hrun hL0 kb sl hkb hroom hsl1.1 hsl1.2
  have hC:carIC (chkC L kb sl)=[.int .i64 L[m].day,.int .i64 3,.int .i64 (kb:Int),.int .i64 0,.int .i64 (((logOf L).bag kb).ca:Int),.int .i64 (((logOf L).bag kb).cb:Int),.int .i64 (sl:Int),.int .i64 0]:=by
    unfold chkC carIC;rw [hday]
  have hCl:=playI_cells s (L++[chkC L kb sl])
  have hP2:=fun p c w' (g':Grown w w') (hA':ArrOf w' 8 carIC (.slice p (L++[chkC L kb sl]).length c) (L++[chkC L kb sl]))=>Play_ok s pR pG pS cR cG cS p c (L++[chkC L kb sl]) w' g'.2 (hA.grown g') hA'
  have hlen2:(L++[chkC L kb sl]).length=L.length+1:=by simp
  rw [hlen2] at hP2
  have hbld:bldQ [(0,1),(1,1),(2,1),(3,1),(4,1),(5,1),(6,1),(7,1)] [.int .i64 0,.int .i64 0,.int .i64 0,.int .i64 0,.int .i64 0,.int .i64 0,.int .i64 0,.int .i64 0] [(0,.int .i64 L[m].day),(1,.int .i64 3),(2,.int .i64 (kb:Int)),(4,.int .i64 (((logOf L).bag kb).ca:Int)),(5,.int .i64 (((logOf L).bag kb).cb:Int)),(6,.int .i64 (sl:Int))]=some (.agg (carIC (chkC L kb sl)).toArray):=by
    rw [hC];rfl
  have hsc:same 12 (.agg (carIC (chkC L kb sl)).toArray) (.agg (carIC (chkC L kb sl)).toArray)=true:=same_ints (carIC (chkC L kb sl)) (by simp [carIC])
  generalize hB1:((logOf L).bags.flatMap bagC)=CB at *
  have hLI:¬ (L.length:Int)=0:=by omega
  simp -dsimp -implicitDefEqProofs (maxSteps:=2000000) (disch:=first|assumption|omega|(simp only [nx];omega)|((repeat refine Fresh.push ?_ _);assumption)|(simp only [smA];done)|(simp [oneCell,AW.next_push];done)|fail) only [go_sem,Nat.reduceEqDiff,reduceIte,Nat.reduceAdd,Tryz.results12,e1,e3,e5,e7,hw4,st5,ia65,hix3,d3,hLI,Nat.zero_add]
  try rw [hw4]
  apply callV_of (e:=rfl)
  · exact Ring_okV n3 999999 (by omega) w5
  rintro _ _ ⟨rfl,rfl⟩
  rw [if_neg (by omega)]
  have O6:=Own.new f5 62 (carIC car0)
  have g6:=(Grown.refl f5).push (.cells (carIC car0) 62 w5.next 0 0)
  have hz8:carIC car0=[.int .i64 0,.int .i64 0,.int .i64 0,.int .i64 0,.int .i64 0,.int .i64 0,.int .i64 0,.int .i64 0]:=rfl
  obtain ⟨w6,hw6⟩:∃ w6,w5.push (.cells (carIC car0) 62 w5.next 0 0)=w6:=⟨_,rfl⟩
  rw [hw6] at O6 g6
  rw [hz8] at hw6
  obtain ⟨w7,st7,O7,m7,hn7⟩:=store_new (n:=8) (l:=carIC (chkC L kb sl)) g6.2 O6 rfl rfl (by omega) rfl
  have g57:Grown w5 w7:=⟨g6.1.trans (m7.keep (fun j q=>by have:j=w5.next:=q;omega) g6.1.next),m7.fresh⟩
  have gg7:=gg5.trans g57
  have f7:=gg7.2
  have OS7:=O5.keep g57.1
  have OB7:=OB5.keep g57.1
  simp -dsimp -implicitDefEqProofs (maxSteps:=2000000) (disch:=first|assumption|omega|(simp only [nx];omega)|((repeat refine Fresh.push ?_ _);assumption)|(simp only [smA];done)|(simp [oneCell,AW.next_push];done)|fail) only [go_sem,Nat.reduceEqDiff,reduceIte,Nat.reduceAdd,Tryz.results12,e1,e3,e5,e7,hsl]
  show CodeT _ _ _ _ _ _ _ _
  refine codeT_regX Tryz.x12r40_eq Tryz.x12r40_kinds ?_
  unfold Tryz.x12r40
  simp -dsimp -implicitDefEqProofs (maxSteps:=2000000) (disch:=first|assumption|omega|(simp only [nx];omega)|((repeat refine Fresh.push ?_ _);assumption)|(simp only [smA];done)|(simp [oneCell,AW.next_push];done)|fail) only [go_sem,Nat.reduceEqDiff,reduceIte,Nat.reduceAdd,Tryz.results12,e1,e3,e5,e7,hm1,hmI,indexV_eq,kD,hbl,c3,c4,hbld,hsc,hw6,st7,Nat.zero_add]
  refine ⟨⟨.inl (show Nat.testBit 524287 17=true by decide),.inl (show Nat.testBit 524287 15=true by decide),.inl (show Nat.testBit 524287 11=true by decide),.inl (show Nat.testBit 524287 6=true by decide),.inl (show Nat.testBit 524287 2=true by decide),trivial⟩,?_⟩
  simp -dsimp -implicitDefEqProofs (maxSteps:=2000000) (disch:=first|assumption|omega|(simp only [nx];omega)|((repeat refine Fresh.push ?_ _);assumption)|(simp only [smA];done)|(simp [oneCell,AW.next_push];done)|fail) only [go_sem,Nat.reduceEqDiff,reduceIte,Nat.reduceAdd,Tryz.results12]
  show CodeT _ _ _ _ _ _ _ _
  refine codeT_regX Tryz.x12r41_eq Tryz.x12r41_kinds ?_
  unfold Tryz.x12r41
  have hge5:=gg5.1.next
  have hge7:=g57.1.next
  have hl7:=hls w7 OS7
  have g8:=(Grown.refl f7).push (.cells [] 62 w7.next 0 0)
  have hbk8:(w7.push (.cells [] 62 w7.next 0 0)).blk w7.next=some (.cells [] 62 w7.next 0 0):=blk_push_top _ _
  have hn8:(w7.push (.cells [] 62 w7.next 0 0)).next=w7.next+1:=AW.next_push _ _
  have O78:=O7.keep g8.1
  obtain ⟨w8,hw8⟩:∃ w8,w7.push (.cells [] 62 w7.next 0 0)=w8:=⟨_,rfl⟩
  rw [hw8] at g8 hbk8 hn8 O78
  have f8:=g8.2
  have hld8:=loadAll O78 (n:=8) rfl (fun v hv=>carIC_one _ v hv)
  have OC9:=Own.new f8 62 (carIC (chkC L kb sl))
  have g9:=(Grown.refl f8).push (.cells (carIC (chkC L kb sl)) 62 w8.next 0 0)
  have hn9:(w8.push (.cells (carIC (chkC L kb sl)) 62 w8.next 0 0)).next=w8.next+1:=AW.next_push _ _
  obtain ⟨w9,hw9⟩:∃ w9,w8.push (.cells (carIC (chkC L kb sl)) 62 w8.next 0 0)=w9:=⟨_,rfl⟩
  rw [hw9] at OC9 g9 hn9
  have f9:=g9.2
  have OB10:=Own.new f9 48 (shelf0.flatMap bagC)
  have g10:=(Grown.refl f9).push (.cells (shelf0.flatMap bagC) 48 w9.next 0 0)
  have hn10:(w9.push (.cells (shelf0.flatMap bagC) 48 w9.next 0 0)).next=w9.next+1:=AW.next_push _ _
  obtain ⟨w10,hw10⟩:∃ w10,w9.push (.cells (shelf0.flatMap bagC) 48 w9.next 0 0)=w10:=⟨_,rfl⟩
  rw [hw10] at OB10 g10 hn10
  have f10:=g10.2
  have g710:=g8.trans (g9.trans g10)
  have g810:=g9.trans g10
  have gg10:=gg7.trans g710
  have hL0':ArrOf w10 8 carIC (.slice (some ⟨b8,o8,none⟩) L.length cL) L:=hL.grown gg10
  have hbk10:w10.blk w7.next=some (.cells [] 62 w7.next 0 0):=by rw [g810.1.blk w7.next (by omega)];exact hbk8
  have hones:∀ y ∈ L.flatMap carIC,oneCell y=true:=fun y hy=>by
    obtain ⟨c,_,hc⟩:=List.mem_flatMap.1 hy
    exact carIC_one c y hc
  obtain ⟨v11,w11,ap11,hk11,f11,hor⟩:=append_empty (b:=w7.next) (e':=62) Tryz.ty44 Tryz.ty62 rfl (by omega) hbk10 f10 rfl (arr_new hL0' carIC_len (by omega)) (flat_len carIC_len L) hones (by omega) (by omega)
  have hA11:AOwn w10.next w11 62 8 v11 L.length (L.flatMap carIC):=by
    rcases hor with ⟨q,_⟩|q
    · omega
    · exact q
  have g11:Grown w10 w11:=⟨hk11,f11⟩
  have OC11:=(OC9.keep g10.1).keep g11.1
  have hn11:=g11.1.next
  have hf12:aFirst w11 8 1 (.slice (some ⟨w8.next,0,none⟩) 1 1)=some (carIC (chkC L kb sl)):=firstOfL rfl (fun i y hy=>by have:=OC11.cell (o:=i) hy (carIC_one _ y (List.mem_of_getElem? hy));exact this)
  obtain ⟨v12,w12,ap12,hA12,hk12,f12,hn12,_⟩:=append_own2R (m:=1) Tryz.ty44 Tryz.ty62 rfl (by omega) hA11 f11 hn11 rfl hf12 rfl (fun y hy=>carIC_one _ y hy) (by omega) (by omega) (by omega)
  have g12:Grown w10 w12:=⟨g11.1.trans hk12,f12⟩
  have gg12:=gg10.trans g12
  have hA12':AOwn w10.next w12 62 8 v12 (L++[chkC L kb sl]).length ((L++[chkC L kb sl]).flatMap carIC):=by
    rw [hlen2,List.flatMap_append]
    have:[chkC L kb sl].flatMap carIC=carIC (chkC L kb sl):=by simp
    rw [this];exact hA12
  have hArr:=AOwn.arrR hA12' carIC_len (by omega)
  obtain ⟨p12,c12,rfl,_⟩:=id hArr.open
  rw [hlen2] at hArr
  have hP12:=hP2 p12 c12 w12 gg12 hArr
  rw [hlen2] at ap12
  have OS12:=(OS7.keep g710.1).keep g12.1
  have OB12:=OB10.keep g12.1
  have O712:=(O78.keep g810.1).keep g12.1
  have OX12:=(OB7.keep g710.1).keep g12.1
  have OS11:=(OS7.keep g710.1).keep g11.1
  have O711:=(O78.keep g810.1).keep g11.1
  have hl11:=hls w11 OS11
  have hl12:=hls w12 OS12
  have hld11:=loadAll O711 (n:=8) rfl (fun v hv=>carIC_one _ v hv)
  have hld12:=loadAll O712 (n:=8) rfl (fun v hv=>carIC_one _ v hv)
  have hsl4:=same_s12V p12 (L.length+1) c12
  have hagg:(carIC (chkC L kb sl)).toArray = #[.int .i64 L[m].day,.int .i64 3,.int .i64 (kb:Int),.int .i64 0,.int .i64 (((logOf L).bag kb).ca:Int),.int .i64 (((logOf L).bag kb).cb:Int),.int .i64 (sl:Int),.int .i64 0]:=by rw [hC]
  rw [hagg] at hld8 hsc
  rw [hC] at hw9
  simp -dsimp -implicitDefEqProofs (maxSteps:=2000000) (disch:=first|assumption|omega|(simp only [nx];omega)|((repeat refine Fresh.push ?_ _);assumption)|(simp only [smA];done)|(simp [oneCell,AW.next_push];done)|fail) only [go_sem,Nat.reduceEqDiff,reduceIte,Nat.reduceAdd,Tryz.results12,e1,e3,e5,e7,hl7,hss,hw8,hld8,hsc,hw9,hw10,ap11]
  refine ⟨⟨.inr fun inf hinf=>?_,.inr fun inf hinf=>?_,trivial⟩,?_⟩
  · rw [Tryz.ty62] at hinf
    injection hinf with hinf
    subst hinf
    rw [hagg] at hld11
    try rw [hw8]
    simp -dsimp -implicitDefEqProofs (maxSteps:=2000000) (disch:=first|assumption|omega|(simp only [nx];omega)|((repeat refine Fresh.push ?_ _);assumption)|(simp only [smA];done)|(simp [oneCell,AW.next_push];done)|fail) only [go_sem,Nat.reduceEqDiff,reduceIte,Nat.reduceAdd,e3,hw8,hld8,hld11]
  · rw [Tryz.ty26] at hinf
    injection hinf with hinf
    subst hinf
    simp -dsimp -implicitDefEqProofs (maxSteps:=2000000) (disch:=first|assumption|omega|(simp only [nx];omega)|((repeat refine Fresh.push ?_ _);assumption)|(simp only [smA];done)|(simp [oneCell,AW.next_push];done)|fail) only [go_sem,Nat.reduceEqDiff,reduceIte,Nat.reduceAdd,e3,hl7,hl11]
  simp -dsimp -implicitDefEqProofs (maxSteps:=2000000) (disch:=first|assumption|omega|(simp only [nx];omega)|((repeat refine Fresh.push ?_ _);assumption)|(simp only [smA];done)|(simp [oneCell,AW.next_push];done)|fail) only [go_sem,Nat.reduceEqDiff,reduceIte,Nat.reduceAdd,Tryz.results12,ap12]
  refine ⟨⟨.inl (show Nat.testBit 62 4=true by decide),.inr fun inf hinf=>?_,trivial⟩,?_⟩
  · rw [Tryz.ty26] at hinf
    injection hinf with hinf
    subst hinf
    simp -dsimp -implicitDefEqProofs (maxSteps:=2000000) (disch:=first|assumption|omega|(simp only [nx];omega)|((repeat refine Fresh.push ?_ _);assumption)|(simp only [smA];done)|(simp [oneCell,AW.next_push];done)|fail) only [go_sem,Nat.reduceEqDiff,reduceIte,Nat.reduceAdd,e3,hl7,hl12]
  simp -dsimp -implicitDefEqProofs (maxSteps:=2000000) (disch:=first|assumption|omega|(simp only [nx];omega)|((repeat refine Fresh.push ?_ _);assumption)|(simp only [smA];done)|(simp [oneCell,AW.next_push];done)|fail) only [go_sem,Nat.reduceEqDiff,reduceIte,Nat.reduceAdd,Tryz.results12]
  apply callV_of (e:=rfl)
  · exact hP12
  rintro _ w13 ⟨rfl,g13⟩
  have gg13:=gg12.trans g13
  have OB13:=OB12.keep g13.1
  have OX13:=OX12.keep g13.1
  have hlen13:=g13.1.next
  obtain ⟨w14,st14,OB14,m14,hn14⟩:=store_new (n:=160) g13.2 OB13 h0l hCl (by omega) (hone _)
  have hge10:=g710.1.next
  have hlt9:=OB12.lt
  have OX14:=m14.own OX13 (fun q=>by have:w3.next=w9.next:=q;have:=OB7.lt;omega)
  have c1:=bc 1 (by omega) _ rfl rfl w14 OX14
  simp -dsimp -implicitDefEqProofs (maxSteps:=2000000) (disch:=first|assumption|omega|(simp only [nx];omega)|((repeat refine Fresh.push ?_ _);assumption)|(simp only [smA];done)|(simp [oneCell,AW.next_push];done)|fail) only [go_sem,Nat.reduceEqDiff,reduceIte,Nat.reduceAdd,Tryz.results12]
  refine ⟨⟨.inl (show Nat.testBit 127 4=true by decide),.inl (show Nat.testBit 127 0=true by decide),trivial⟩,?_⟩
  have hbo:=same_bags (playI s (L++[chkC L kb sl])).1
  have htu:same 12 (.tuple #[.agg ((playI s (L++[chkC L kb sl])).1.flatMap bagC).toArray,.int .i64 ((playI s (L++[chkC L kb sl])).2.1:Int),.int .i64 ((playI s (L++[chkC L kb sl])).2.2:Int)]) (.tuple #[.agg ((playI s (L++[chkC L kb sl])).1.flatMap bagC).toArray,.int .i64 ((playI s (L++[chkC L kb sl])).2.1:Int),.int .i64 ((playI s (L++[chkC L kb sl])).2.2:Int)])=true:=by
    have hq10:same.all 10 ((playI s (L++[chkC L kb sl])).1.flatMap bagC) ((playI s (L++[chkC L kb sl])).1.flatMap bagC)=true:=same_ints10P _ (bags_ints _)
    simp [same,same.all,intEq_eq,hq10]
  generalize hEE:(playI s (L++[chkC L kb sl])).2.2=E at *
  generalize hAA:(playI s (L++[chkC L kb sl])).2.1=A at *
  generalize ((playI s (L++[chkC L kb sl])).1.flatMap bagC).toArray=SM at *
  simp -dsimp -implicitDefEqProofs (maxSteps:=2000000) (disch:=first|assumption|omega|(simp only [nx];omega)|((repeat refine Fresh.push ?_ _);assumption)|(simp only [smA];done)|(simp [oneCell,AW.next_push];done)|fail) only [go_sem,Nat.reduceEqDiff,reduceIte,Nat.reduceAdd,Tryz.results12,htu,hbo,st14]
  refine ⟨⟨.inl (show Nat.testBit 5119 4=true by decide),.inl (show Nat.testBit 5119 0=true by decide),trivial⟩,?_⟩
  by_cases h64:64≤L.length
  · have hge:decide ((L.length:Int) ≥ 64)=true:=decide_eq_true (by omega)
    have hE:=r1 h64
    have hEI:(E:Int)=43:=by omega
    simp -dsimp -implicitDefEqProofs (maxSteps:=2000000) (disch:=first|assumption|omega|(simp only [nx];omega)|((repeat refine Fresh.push ?_ _);assumption)|(simp only [smA];done)|(simp [oneCell,AW.next_push];done)|fail) only [go_sem,Nat.reduceEqDiff,reduceIte,Nat.reduceAdd,Tryz.results12,e1,hge,hEI]
    apply callV_of (e:=rfl)
    · exact callT_told (Q:=fun v w'=>v=.bool true∧w14=w') (v:=.bool true) (w':=w14) rfl ⟨rfl,rfl⟩
    rintro _ _ ⟨rfl,rfl⟩
    simp -dsimp -implicitDefEqProofs (maxSteps:=2000000) (disch:=first|assumption|omega|(simp only [nx];omega)|((repeat refine Fresh.push ?_ _);assumption)|(simp only [smA];done)|(simp [oneCell,AW.next_push];done)|fail) only [go_sem,Nat.reduceEqDiff,reduceIte,Nat.reduceAdd,Tryz.results12]
  have hge:decide ((L.length:Int) ≥ 64)=false:=decide_eq_false (by omega)
  by_cases hq:((logOf L).bag kb).sl=sl
  · have hEI:(E:Int)=0:=by have:=r2 (by omega) hq;omega
    have hd:decide ((sl:Int)=(((logOf L).bag kb).sl:Int))=true:=decide_eq_true (by omega)
    simp -dsimp -implicitDefEqProofs (maxSteps:=2000000) (disch:=first|assumption|omega|(simp only [nx];omega)|((repeat refine Fresh.push ?_ _);assumption)|(simp only [smA];done)|(simp [oneCell,AW.next_push];done)|fail) only [go_sem,Nat.reduceEqDiff,reduceIte,Nat.reduceAdd,Tryz.results12,e1,e7,hge,hEI,hd,hbl,c1,Nat.zero_add]
    apply callV_of (e:=rfl)
    · exact callT_told (Q:=fun v w'=>v=.bool true∧w14=w') (v:=.bool true) (w':=w14) rfl ⟨rfl,rfl⟩
    rintro _ _ ⟨rfl,rfl⟩
    simp -dsimp -implicitDefEqProofs (maxSteps:=2000000) (disch:=first|assumption|omega|(simp only [nx];omega)|((repeat refine Fresh.push ?_ _);assumption)|(simp only [smA];done)|(simp [oneCell,AW.next_push];done)|fail) only [go_sem,Nat.reduceEqDiff,reduceIte,Nat.reduceAdd,Tryz.results12]
  · obtain ⟨z1,z2⟩:=r3 (by omega) hq
    have hEI:(E:Int)=48:=by omega
    have hAI:(A:Int)=(L.length:Int):=by omega
    have hd:decide ((sl:Int)=(((logOf L).bag kb).sl:Int))=false:=decide_eq_false (by omega)
    simp -dsimp -implicitDefEqProofs (maxSteps:=2000000) (disch:=first|assumption|omega|(simp only [nx];omega)|((repeat refine Fresh.push ?_ _);assumption)|(simp only [smA];done)|(simp [oneCell,AW.next_push];done)|fail) only [go_sem,Nat.reduceEqDiff,reduceIte,Nat.reduceAdd,Tryz.results12,e1,e7,hge,hEI,hAI,hd,hbl,c1,Nat.zero_add]
    apply callV_of (e:=rfl)
    · exact callT_told (Q:=fun v w'=>v=.bool true∧w14=w') (v:=.bool true) (w':=w14) rfl ⟨rfl,rfl⟩
    rintro _ _ ⟨rfl,rfl⟩
    simp -dsimp -implicitDefEqProofs (maxSteps:=2000000) (disch:=first|assumption|omega|(simp only [nx];omega)|((repeat refine Fresh.push ?_ _);assumption)|(simp only [smA];done)|(simp [oneCell,AW.next_push];done)|fail) only [go_sem,Nat.reduceEqDiff,reduceIte,Nat.reduceAdd,Tryz.results12]
end Go.Proofs

namespace Go.Proofs
open Go Go.RowKit Go.Sim
set_option maxRecDepth 100000
theorem back_len {kb:Nat} {L:List CarI}:∀ i,(back kb L i).length≤i+1∧(back2 kb L i).length≤1:=by
  intro i
  induction i with
  | zero=>exact ⟨by simp [back],by simp [back2]⟩
  | succ i ih =>
    obtain ⟨h1,h2⟩:=ih
    rcases Nat.lt_or_ge i L.length with q|q
    · rw [back_step q,back2_step q]
      constructor
      · split
        · split
          · simp
          split
          · rw [List.length_cons];omega
          · omega
        · omega
      · split
        · simp
        · exact h2
    · rw [back,back2,List.getElem?_eq_none q]
      exact ⟨by simp,by simp⟩
theorem group_some {s:StrN} {TR g r:Nat} (hg:g < 2 ^ s.staff.length) (hr:(endR s g 1).testBit r=true) (ht:TR.testBit r=true):(leastN (reachB s TR) s.staff.length).any (fun y=>subB g y)=true:=by
  have hre:reachB s TR g=true:=by
    unfold reachB
    rw [Bool.not_eq_true',decide_eq_false_iff_not]
    intro h
    have:(endR s g 1 &&& TR).testBit r=true:=by rw [Nat.testBit_and,hr,ht];rfl
    rw [h,Nat.zero_testBit] at this
    cases this
  obtain ⟨y,hy,hsub⟩:=leastN_any hg hre
  exact List.any_eq_true.2 ⟨y,hy,subB_iff.2 hsub⟩
set_option maxHeartbeats 64000000 in
theorem swap_b {s:StrN} {pR pG pS:Option Addr} {cR cG cS:Nat} {pL:Option Addr} {cL:Nat} {L:List CarI} (hrun:(runI s L).2.1=0) (hL0:L ≠ []) (kb:Nat) (hkb:kb < 32) (hroom:((logOf L).bag kb).room ≠ 0) (n0 n1 n2 n3:Int) (w:AW) (hA:StrAt w pR pG pS cR cG cS s) (hL:ArrOf w 8 carIC (.slice pL L.length cL) L) (b0 b1:Nat) (t:Tmps) (w2:AW) (g2:Grown w w2)
    (O2:Own w2 b0 26 (strC pR pG pS cR cG cS s)) (N2:Own w2 b1 65 [.int .i64 n0,.int .i64 n1,.int .i64 n2,.int .i64 n3]) (e1:ev t (.tmp 1)=.slice pL L.length cL) (e3:ev t (.tmp 3)=.pointer (some ⟨b0,0,none⟩)) (e5:ev t (.tmp 5)=.pointer (some ⟨b1,0,none⟩)) (e7:ev t (.tmp 7)=.int .i64 (kb:Int))
    (u v:Value) (hu:ArrOf w2 1 icells u (natsL (leastN (reachB s ((logOf L).trail kb)) s.staff.length))) (hv:ArrOf w2 1 icells v (natsL (back kb L L.length))) (e8:ev t (.tmp 8)=u) (e10:ev t (.tmp 10)=v) :
    CodeR Tryz.prog Tryz.T1 { fn:=12,round:=none } Tryz.s12_c122 t [] w2 (fun e t ds w'=>Sim.Left (P:=Tryz.prog) Tryz.f12.results.toList e t ds w' fun v _=>v=.bool true) .mk:=by
  obtain ⟨hs,ha,hru⟩:=run_log hrun
  have h64L:L.length≤64:=by unfold areB at ha;rw [Bool.and_eq_true] at ha;exact of_decide_eq_true ha.1
  have hbk:=back_ok hrun kb hkb L.length (Nat.le_refl _) (by rw [List.take_length];exact hroom)
  rw [List.take_length] at hbk
  obtain ⟨hne,hin⟩:=hbk
  have hbl:=(back_len (kb:=kb) (L:=L) L.length).1
  have hsl:=(str_staff hs).2.1
  have hrl:=str_rooms hs
  have hmW:∀ y ∈ leastN (reachB s ((logOf L).trail kb)) s.staff.length,y < 64:=fun y hy=>by
    have:=(leastN_mem hy).1
    have:=pow6 hsl
    omega
  have hgs:=fun g r hg hr ht=>group_some (s:=s) (TR:=(logOf L).trail kb) (g:=g) (r:=r) hg hr ht
  have hLI:=(logOf_inv hrun L.length (Nat.le_refl _)).2
  rw [List.take_length] at hLI
  have htl:=trail_lt hLI (logOf_ok L x0 x0_ok) hkb
  have hrest:=fun t w' (g':Grown w w') O' N' e1 e3 e5 e7=>swap_c hrun hL0 kb hkb hroom n0 n1 n2 n3 w hA hL b0 b1 t w' g' O' N' e1 e3 e5 e7
  generalize hF:back kb L L.length=FB at *
  generalize hT:(logOf L).trail kb=TR at *
  generalize hW:leastN (reachB s TR) s.staff.length=Ws at *
  have hF0:0 < FB.length:=List.length_pos_iff.2 hne
  obtain ⟨pB,cB,rfl,hbB,hatB⟩:=nats_at hv
  obtain ⟨pW,cW,rfl,hbW,hatW⟩:=nats_at hu
  have hlenI:¬ (FB.length:Int)=0:=by omega
  have d1:=N2.cell (o:=1) (v:=.int .i64 n1) rfl rfl
  have d2:=N2.cell (o:=2) (v:=.int .i64 n2) rfl rfl
  have c2:=O2.cell (o:=2) (v:=.slice pS s.staff.length cS) rfl rfl
  have ia65:∀ (t:Tmps) (w:AW) (x y:Operand),fast (prg Tryz.prog) t w (.indexAddr 65 x y)=indexA 1 4 (ev t x) (ev t y):=fun t w x y=>fast_indexAddrA Tryz.ty65 Tryz.ty3
  have hix1:∀ (b o:Nat),indexA 1 4 (.pointer (some ⟨b,o,none⟩)) (.int .i64 1)=some (.pointer (some ⟨b,o+1,none⟩)):=fun b o=>indexA_eq (i:=1) (by decide)
  have hix2:∀ (b o:Nat),indexA 1 4 (.pointer (some ⟨b,o,none⟩)) (.int .i64 2)=some (.pointer (some ⟨b,o+2,none⟩)):=fun b o=>indexA_eq (i:=2) (by decide)
  have hls:=fun w' (O:Own w' b0 26 (strC pR pG pS cR cG cS s))=>loadAll O (n:=3) rfl (by simp [strC,oneCell])
  have hl2:=hls w2 O2
  obtain ⟨m,hm⟩:∃ m:Nat,n1 % (FB.length:Int)=m:=⟨(n1 % (FB.length:Int)).toNat,by have:=Int.emod_nonneg n1 (b:=(FB.length:Int)) (by omega);omega⟩
  have hmF:m < FB.length:=by have:=Int.emod_lt_of_pos n1 (b:=(FB.length:Int)) (by omega);omega
  have hmI:(m:Int) < (FB.length:Int):=by omega
  obtain ⟨bB,oB,rfl,hcB⟩:=hatB m hmF
  have a0:=hcB w2 (.refl _ _)
  have hrm:=hin _ (List.getElem_mem hmF)
  have hr6:FB[m] < 6:=by
    rcases Nat.lt_or_ge FB[m] 6 with q|q
    · exact q
    · rw [Nat.testBit_lt_two_pow (Nat.lt_of_lt_of_le htl (Nat.pow_le_pow_right (by omega) q:2 ^ 6≤_))] at hrm;cases hrm
  have hp:=pow6 hsl
  have hpos:0 < 2 ^ s.staff.length:=Nat.two_pow_pos _
  have hmin:min 6 (s.staff.length:Int)=(s.staff.length:Int):=by omega
  have hsh:=full_shl (n:=s.staff.length) (by omega)
  have hn0:¬ (s.staff.length:Int) < 0:=by omega
  obtain ⟨g,hg⟩:∃ g:Nat,n2 % ((2 ^ s.staff.length:Nat):Int)=g:=⟨(n2 % ((2 ^ s.staff.length:Nat):Int)).toNat,by have:=Int.emod_nonneg n2 (b:=((2 ^ s.staff.length:Nat):Int)) (by omega);omega⟩
  have hg2:g < 2 ^ s.staff.length:=by have:=Int.emod_lt_of_pos n2 (b:=((2 ^ s.staff.length:Nat):Int)) (by omega);omega
  have hask:askN s (g:Int)=0:=by
    unfold askN
    rw [if_pos hs,if_pos]
    unfold setB fullI
    rw [inR_iff]
    omega
  have hent:entN s (g:Int)=(endR s g 1:Int):=by unfold entN;rw [if_pos hask];rfl
  have hen:=EnterV_ok s pR pG pS cR cG cS (g:Int) w2 g2.2 (hA.grown g2)
  rw [hask,hent] at hen
  have hgs:=hgs g FB[m] hg2
  have hin':=(endR_in hs g).1
  have hfr:inR 0 (FB[m]:Int) 5=true:=by rw [inR_iff];omega
  generalize hR:FB[m]=rm at *
  unfold strC at *
  delta Tryz.s12_c122 zo zt zg zh
  simp -dsimp -implicitDefEqProofs (maxSteps:=2000000) (disch:=first|assumption|omega|(simp only [nx];omega)|((repeat refine Fresh.push ?_ _);assumption)|(simp only [smA];done)|(simp [oneCell,AW.next_push];done)|fail) only [go_sem,Nat.reduceEqDiff,reduceIte,Nat.reduceAdd,Tryz.results12,e1,e3,e5,e7,e8,e10,hlenI,ia65,hix1,d1,Nat.zero_add]
  apply callV_of (e:=rfl)
  · exact Ring_okV n1 (FB.length:Int) (by omega) w2
  rintro _ _ ⟨rfl,rfl⟩
  rw [if_neg (by omega),hm]
  simp -dsimp -implicitDefEqProofs (maxSteps:=2000000) (disch:=first|assumption|omega|(simp only [nx];omega)|((repeat refine Fresh.push ?_ _);assumption)|(simp only [smA];done)|(simp [oneCell,AW.next_push];done)|fail) only [go_sem,Nat.reduceEqDiff,reduceIte,Nat.reduceAdd,Tryz.results12,e1,e3,e5,e7,e8,e10,indexV_eq,hmI,a0,Nat.mul_one]
  show CodeT _ _ _ _ _ _ _ _
  refine codeT_regX Tryz.x12r25_eq Tryz.x12r25_kinds ?_
  unfold Tryz.x12r25
  simp -dsimp -implicitDefEqProofs (maxSteps:=2000000) (disch:=first|assumption|omega|(simp only [nx];omega)|((repeat refine Fresh.push ?_ _);assumption)|(simp only [smA];done)|(simp [oneCell,AW.next_push];done)|fail) only [go_sem,Nat.reduceEqDiff,reduceIte,Nat.reduceAdd,Tryz.results12,e1,e3,e5,e7,e8,e10,ia65,hix2,d2,c2,hmin,hsh,hn0,Nat.zero_add]
  apply callV_of (e:=rfl)
  · exact Ring_okV n2 ((2 ^ s.staff.length:Nat):Int) (by omega) w2
  rintro _ _ ⟨rfl,rfl⟩
  rw [if_neg (by omega),hg]
  simp -dsimp -implicitDefEqProofs (maxSteps:=2000000) (disch:=first|assumption|omega|(simp only [nx];omega)|((repeat refine Fresh.push ?_ _);assumption)|(simp only [smA];done)|(simp [oneCell,AW.next_push];done)|fail) only [go_sem,Nat.reduceEqDiff,reduceIte,Nat.reduceAdd,Tryz.results12]
  refine ⟨⟨.inl (show Nat.testBit 127 5=true by decide),.inl (show Nat.testBit 127 4=true by decide),.inl (show Nat.testBit 127 3=true by decide),.inl (show Nat.testBit 127 1=true by decide),trivial⟩,?_⟩
  simp -dsimp -implicitDefEqProofs (maxSteps:=2000000) (disch:=first|assumption|omega|(simp only [nx];omega)|((repeat refine Fresh.push ?_ _);assumption)|(simp only [smA];done)|(simp [oneCell,AW.next_push];done)|fail) only [go_sem,Nat.reduceEqDiff,reduceIte,Nat.reduceAdd,Tryz.results12,e1,e3,e5,e7,e8,e10,hl2]
  apply callV_of (e:=rfl)
  · exact hen
  rintro _ w3 ⟨rfl,g3⟩
  have gg3:=g2.trans g3
  have O3:=O2.keep g3.1
  have N3:=N2.keep g3.1
  simp -dsimp -implicitDefEqProofs (maxSteps:=2000000) (disch:=first|assumption|omega|(simp only [nx];omega)|((repeat refine Fresh.push ?_ _);assumption)|(simp only [smA];done)|(simp [oneCell,AW.next_push];done)|fail) only [go_sem,Nat.reduceEqDiff,reduceIte,Nat.reduceAdd,Tryz.results12]
  apply callV_of (e:=rfl)
  · exact From_ok _ _ _ w3
  rintro _ _ ⟨rfl,rfl⟩
  rw [hfr]
  have hz0:=anyTo_zero (fun y=>subB g y) Ws
  have hall:=anyTo_all (fun y=>subB g y) Ws
  simp -dsimp -implicitDefEqProofs (maxSteps:=2000000) (disch:=first|assumption|omega|(simp only [nx];omega)|((repeat refine Fresh.push ?_ _);assumption)|(simp only [smA];done)|(simp [oneCell,AW.next_push];done)|fail) only [go_sem,Nat.reduceEqDiff,reduceIte,Nat.reduceAdd,Tryz.results12]
  refine loopR (fun k t ds w5=>∃ i:Nat,i≤Ws.length∧k=Ws.length - i∧ds=[]∧ev t (.tmp 1)=.slice pL L.length cL∧ev t (.tmp 3)=.pointer (some ⟨b0,0,none⟩)∧ev t (.tmp 5)=.pointer (some ⟨b1,0,none⟩)∧ev t (.tmp 7)=.int .i64 (kb:Int)∧ev t (.tmp 8)=.slice pW Ws.length cW∧ev t (.tmp 14)=.int .i64 (rm:Int)∧ev t (.tmp 15)=.int .i64 (g:Int)∧ev t (.tmp 16)=.int .i64 (endR s g 1:Int)∧ev t (.tmp 17)=.bool (anyTo (fun y=>subB g y) Ws i)∧ev t (.tmp 18)=.int .i64 (i:Int)∧w3=w5) (Ws.length) ?_ ?_
  · refine ⟨0,by omega,by omega,rfl,?_,?_,?_,?_,?_,?_,?_,?_,?_,?_,rfl⟩ <;> simp -dsimp -implicitDefEqProofs (maxSteps:=2000000) (disch:=first|assumption|omega|(simp only [nx];omega)|((repeat refine Fresh.push ?_ _);assumption)|(simp only [smA];done)|(simp [oneCell,AW.next_push];done)|fail) only [go_sem,Nat.reduceEqDiff,reduceIte,Nat.reduceAdd,hz0,e1,e3,e5,e7,e8] <;> rfl
  rintro k t ds w5 ⟨i,hii,rfl,rfl,e1,e3,e5,e7,e8,e14,e15,e16,e17,e18,hw⟩
  subst hw
  by_cases hlt:(i:Int) < (Ws.length:Int)
  case pos =>
    have hlt':i < Ws.length:=by omega
    have hsu:=anyTo_succ (b:=fun y=>subB g y) hlt'
    obtain ⟨b,o,rfl,hc⟩:=hatW i hlt'
    have a0:=hc w3 g3.1
    have hy:=hmW _ (List.getElem_mem hlt')
    have hin2:=in_ok Ws[i] g (by omega) (by omega) w3
    try simp only at hsu
    generalize Ws[i]=y at *
    cases hF:anyTo (fun y=>subB g y) Ws i with
    | true =>
      rw [hF,Bool.true_or] at hsu
      simp -dsimp -implicitDefEqProofs (maxSteps:=2000000) (disch:=first|assumption|omega|(simp only [nx];omega)|((repeat refine Fresh.push ?_ _);assumption)|(simp only [smA];done)|(simp [oneCell,AW.next_push];done)|fail) only [go_sem,Nat.reduceEqDiff,reduceIte,Nat.reduceAdd,Tryz.results12,e1,e3,e5,e7,e8,e14,e15,e16,e17,e18,hlt,hF]
      refine ⟨_,by omega,i+1,by omega,rfl,rfl,by (simp -dsimp -implicitDefEqProofs (maxSteps:=2000000) (disch:=first|assumption|omega|(simp only [nx];omega)|((repeat refine Fresh.push ?_ _);assumption)|(simp only [smA];done)|(simp [oneCell,AW.next_push];done)|fail) only [go_sem,Nat.reduceEqDiff,reduceIte,Nat.reduceAdd,e1,hsu];try rfl),by (simp -dsimp -implicitDefEqProofs (maxSteps:=2000000) (disch:=first|assumption|omega|(simp only [nx];omega)|((repeat refine Fresh.push ?_ _);assumption)|(simp only [smA];done)|(simp [oneCell,AW.next_push];done)|fail) only [go_sem,Nat.reduceEqDiff,reduceIte,Nat.reduceAdd,e3,hsu];try rfl),by (simp -dsimp -implicitDefEqProofs (maxSteps:=2000000) (disch:=first|assumption|omega|(simp only [nx];omega)|((repeat refine Fresh.push ?_ _);assumption)|(simp only [smA];done)|(simp [oneCell,AW.next_push];done)|fail) only [go_sem,Nat.reduceEqDiff,reduceIte,Nat.reduceAdd,e5,hsu];try rfl),by (simp -dsimp -implicitDefEqProofs (maxSteps:=2000000) (disch:=first|assumption|omega|(simp only [nx];omega)|((repeat refine Fresh.push ?_ _);assumption)|(simp only [smA];done)|(simp [oneCell,AW.next_push];done)|fail) only [go_sem,Nat.reduceEqDiff,reduceIte,Nat.reduceAdd,e7,hsu];try rfl),by (simp -dsimp -implicitDefEqProofs (maxSteps:=2000000) (disch:=first|assumption|omega|(simp only [nx];omega)|((repeat refine Fresh.push ?_ _);assumption)|(simp only [smA];done)|(simp [oneCell,AW.next_push];done)|fail) only [go_sem,Nat.reduceEqDiff,reduceIte,Nat.reduceAdd,e8,hsu];try rfl),by (simp -dsimp -implicitDefEqProofs (maxSteps:=2000000) (disch:=first|assumption|omega|(simp only [nx];omega)|((repeat refine Fresh.push ?_ _);assumption)|(simp only [smA];done)|(simp [oneCell,AW.next_push];done)|fail) only [go_sem,Nat.reduceEqDiff,reduceIte,Nat.reduceAdd,e14,hsu];try rfl),by (simp -dsimp -implicitDefEqProofs (maxSteps:=2000000) (disch:=first|assumption|omega|(simp only [nx];omega)|((repeat refine Fresh.push ?_ _);assumption)|(simp only [smA];done)|(simp [oneCell,AW.next_push];done)|fail) only [go_sem,Nat.reduceEqDiff,reduceIte,Nat.reduceAdd,e15,hsu];try rfl),by (simp -dsimp -implicitDefEqProofs (maxSteps:=2000000) (disch:=first|assumption|omega|(simp only [nx];omega)|((repeat refine Fresh.push ?_ _);assumption)|(simp only [smA];done)|(simp [oneCell,AW.next_push];done)|fail) only [go_sem,Nat.reduceEqDiff,reduceIte,Nat.reduceAdd,e16,hsu];try rfl),by (simp -dsimp -implicitDefEqProofs (maxSteps:=2000000) (disch:=first|assumption|omega|(simp only [nx];omega)|((repeat refine Fresh.push ?_ _);assumption)|(simp only [smA];done)|(simp [oneCell,AW.next_push];done)|fail) only [go_sem,Nat.reduceEqDiff,reduceIte,Nat.reduceAdd,e17,hsu];try rfl),by (simp -dsimp -implicitDefEqProofs (maxSteps:=2000000) (disch:=first|assumption|omega|(simp only [nx];omega)|((repeat refine Fresh.push ?_ _);assumption)|(simp only [smA];done)|(simp [oneCell,AW.next_push];done)|fail) only [go_sem,Nat.reduceEqDiff,reduceIte,Nat.reduceAdd,e18,hsu];try rfl),rfl⟩
    | false =>
      rw [hF,Bool.false_or] at hsu
      simp -dsimp -implicitDefEqProofs (maxSteps:=2000000) (disch:=first|assumption|omega|(simp only [nx];omega)|((repeat refine Fresh.push ?_ _);assumption)|(simp only [smA];done)|(simp [oneCell,AW.next_push];done)|fail) only [go_sem,Nat.reduceEqDiff,reduceIte,Nat.reduceAdd,Tryz.results12,e1,e3,e5,e7,e8,e14,e15,e16,e17,e18,hlt,hF,indexV_eq,Nat.mul_one,a0]
      apply callV_of (e:=rfl)
      · exact hin2
      rintro _ _ ⟨rfl,rfl⟩
      simp -dsimp -implicitDefEqProofs (maxSteps:=2000000) (disch:=first|assumption|omega|(simp only [nx];omega)|((repeat refine Fresh.push ?_ _);assumption)|(simp only [smA];done)|(simp [oneCell,AW.next_push];done)|fail) only [go_sem,Nat.reduceEqDiff,reduceIte,Nat.reduceAdd,Tryz.results12,e1,e3,e5,e7,e8,e14,e15,e16,e18]
      refine ⟨_,by omega,i+1,by omega,rfl,rfl,by (simp -dsimp -implicitDefEqProofs (maxSteps:=2000000) (disch:=first|assumption|omega|(simp only [nx];omega)|((repeat refine Fresh.push ?_ _);assumption)|(simp only [smA];done)|(simp [oneCell,AW.next_push];done)|fail) only [go_sem,Nat.reduceEqDiff,reduceIte,Nat.reduceAdd,e1,hsu];try rfl),by (simp -dsimp -implicitDefEqProofs (maxSteps:=2000000) (disch:=first|assumption|omega|(simp only [nx];omega)|((repeat refine Fresh.push ?_ _);assumption)|(simp only [smA];done)|(simp [oneCell,AW.next_push];done)|fail) only [go_sem,Nat.reduceEqDiff,reduceIte,Nat.reduceAdd,e3,hsu];try rfl),by (simp -dsimp -implicitDefEqProofs (maxSteps:=2000000) (disch:=first|assumption|omega|(simp only [nx];omega)|((repeat refine Fresh.push ?_ _);assumption)|(simp only [smA];done)|(simp [oneCell,AW.next_push];done)|fail) only [go_sem,Nat.reduceEqDiff,reduceIte,Nat.reduceAdd,e5,hsu];try rfl),by (simp -dsimp -implicitDefEqProofs (maxSteps:=2000000) (disch:=first|assumption|omega|(simp only [nx];omega)|((repeat refine Fresh.push ?_ _);assumption)|(simp only [smA];done)|(simp [oneCell,AW.next_push];done)|fail) only [go_sem,Nat.reduceEqDiff,reduceIte,Nat.reduceAdd,e7,hsu];try rfl),by (simp -dsimp -implicitDefEqProofs (maxSteps:=2000000) (disch:=first|assumption|omega|(simp only [nx];omega)|((repeat refine Fresh.push ?_ _);assumption)|(simp only [smA];done)|(simp [oneCell,AW.next_push];done)|fail) only [go_sem,Nat.reduceEqDiff,reduceIte,Nat.reduceAdd,e8,hsu];try rfl),by (simp -dsimp -implicitDefEqProofs (maxSteps:=2000000) (disch:=first|assumption|omega|(simp only [nx];omega)|((repeat refine Fresh.push ?_ _);assumption)|(simp only [smA];done)|(simp [oneCell,AW.next_push];done)|fail) only [go_sem,Nat.reduceEqDiff,reduceIte,Nat.reduceAdd,e14,hsu];try rfl),by (simp -dsimp -implicitDefEqProofs (maxSteps:=2000000) (disch:=first|assumption|omega|(simp only [nx];omega)|((repeat refine Fresh.push ?_ _);assumption)|(simp only [smA];done)|(simp [oneCell,AW.next_push];done)|fail) only [go_sem,Nat.reduceEqDiff,reduceIte,Nat.reduceAdd,e15,hsu];try rfl),by (simp -dsimp -implicitDefEqProofs (maxSteps:=2000000) (disch:=first|assumption|omega|(simp only [nx];omega)|((repeat refine Fresh.push ?_ _);assumption)|(simp only [smA];done)|(simp [oneCell,AW.next_push];done)|fail) only [go_sem,Nat.reduceEqDiff,reduceIte,Nat.reduceAdd,e16,hsu];try rfl),by (simp -dsimp -implicitDefEqProofs (maxSteps:=2000000) (disch:=first|assumption|omega|(simp only [nx];omega)|((repeat refine Fresh.push ?_ _);assumption)|(simp only [smA];done)|(simp [oneCell,AW.next_push];done)|fail) only [go_sem,Nat.reduceEqDiff,reduceIte,Nat.reduceAdd,e17,hsu];try rfl),by (simp -dsimp -implicitDefEqProofs (maxSteps:=2000000) (disch:=first|assumption|omega|(simp only [nx];omega)|((repeat refine Fresh.push ?_ _);assumption)|(simp only [smA];done)|(simp [oneCell,AW.next_push];done)|fail) only [go_sem,Nat.reduceEqDiff,reduceIte,Nat.reduceAdd,e18,hsu];try rfl),rfl⟩
  obtain rfl:i=Ws.length:=by omega
  rw [hall] at e17
  simp -dsimp -implicitDefEqProofs (maxSteps:=2000000) (disch:=first|assumption|omega|(simp only [nx];omega)|((repeat refine Fresh.push ?_ _);assumption)|(simp only [smA];done)|(simp [oneCell,AW.next_push];done)|fail) only [go_sem,Nat.reduceEqDiff,reduceIte,Nat.reduceAdd,Tryz.results12,e1,e3,e5,e7,e8,e14,e15,e16,e17,e18,hlt]
  apply callV_of (e:=rfl)
  · exact Bit_ok (endR s g 1) rm (by omega) (by omega) w3
  rintro _ _ ⟨rfl,rfl⟩
  cases hb:(endR s g 1).testBit rm with
  | true =>
    have hT:=hgs hb hrm
    simp -dsimp -implicitDefEqProofs (maxSteps:=2000000) (disch:=first|assumption|omega|(simp only [nx];omega)|((repeat refine Fresh.push ?_ _);assumption)|(simp only [smA];done)|(simp [oneCell,AW.next_push];done)|fail) only [go_sem,Nat.reduceEqDiff,reduceIte,Nat.reduceAdd,Tryz.results12,e1,e3,e5,e7,e8,e14,e15,e16,e17,e18,hT]
    exact hrest _ w3 gg3 O3 N3 (by (simp -dsimp -implicitDefEqProofs (maxSteps:=2000000) (disch:=first|assumption|omega|(simp only [nx];omega)|((repeat refine Fresh.push ?_ _);assumption)|(simp only [smA];done)|(simp [oneCell,AW.next_push];done)|fail) only [go_sem,Nat.reduceEqDiff,reduceIte,Nat.reduceAdd,e1];try rfl)) (by (simp -dsimp -implicitDefEqProofs (maxSteps:=2000000) (disch:=first|assumption|omega|(simp only [nx];omega)|((repeat refine Fresh.push ?_ _);assumption)|(simp only [smA];done)|(simp [oneCell,AW.next_push];done)|fail) only [go_sem,Nat.reduceEqDiff,reduceIte,Nat.reduceAdd,e3];try rfl)) (by (simp -dsimp -implicitDefEqProofs (maxSteps:=2000000) (disch:=first|assumption|omega|(simp only [nx];omega)|((repeat refine Fresh.push ?_ _);assumption)|(simp only [smA];done)|(simp [oneCell,AW.next_push];done)|fail) only [go_sem,Nat.reduceEqDiff,reduceIte,Nat.reduceAdd,e5];try rfl)) (by (simp -dsimp -implicitDefEqProofs (maxSteps:=2000000) (disch:=first|assumption|omega|(simp only [nx];omega)|((repeat refine Fresh.push ?_ _);assumption)|(simp only [smA];done)|(simp [oneCell,AW.next_push];done)|fail) only [go_sem,Nat.reduceEqDiff,reduceIte,Nat.reduceAdd,e7];try rfl))
  | false =>
    simp -dsimp -implicitDefEqProofs (maxSteps:=2000000) (disch:=first|assumption|omega|(simp only [nx];omega)|((repeat refine Fresh.push ?_ _);assumption)|(simp only [smA];done)|(simp [oneCell,AW.next_push];done)|fail) only [go_sem,Nat.reduceEqDiff,reduceIte,Nat.reduceAdd,Tryz.results12,e1,e3,e5,e7,e8,e14,e15,e16,e17,e18]
    exact hrest _ w3 gg3 O3 N3 (by (simp -dsimp -implicitDefEqProofs (maxSteps:=2000000) (disch:=first|assumption|omega|(simp only [nx];omega)|((repeat refine Fresh.push ?_ _);assumption)|(simp only [smA];done)|(simp [oneCell,AW.next_push];done)|fail) only [go_sem,Nat.reduceEqDiff,reduceIte,Nat.reduceAdd,e1];try rfl)) (by (simp -dsimp -implicitDefEqProofs (maxSteps:=2000000) (disch:=first|assumption|omega|(simp only [nx];omega)|((repeat refine Fresh.push ?_ _);assumption)|(simp only [smA];done)|(simp [oneCell,AW.next_push];done)|fail) only [go_sem,Nat.reduceEqDiff,reduceIte,Nat.reduceAdd,e3];try rfl)) (by (simp -dsimp -implicitDefEqProofs (maxSteps:=2000000) (disch:=first|assumption|omega|(simp only [nx];omega)|((repeat refine Fresh.push ?_ _);assumption)|(simp only [smA];done)|(simp [oneCell,AW.next_push];done)|fail) only [go_sem,Nat.reduceEqDiff,reduceIte,Nat.reduceAdd,e5];try rfl)) (by (simp -dsimp -implicitDefEqProofs (maxSteps:=2000000) (disch:=first|assumption|omega|(simp only [nx];omega)|((repeat refine Fresh.push ?_ _);assumption)|(simp only [smA];done)|(simp [oneCell,AW.next_push];done)|fail) only [go_sem,Nat.reduceEqDiff,reduceIte,Nat.reduceAdd,e7];try rfl))
end Go.Proofs
