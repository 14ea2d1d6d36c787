/- This program: its code, contracts, numbers, part 11. -/
import Derived.Test.YtnbfkakjdifcpaaGreatPaf
import Derived.Test.YtnbfkakjdifcpaaGreatNa
import Derived.Test.YtnbfkakjdifcpaaGreatPaj
import Derived.Test.YtnbfkakjdifcpaaGreatPad
import Derived.Test.YtnbfkakjdifcpaaGreatPaa
import Derived.Test.YtnbfkakjdifcpaaGreatNc
import Derived.Test.YtnbfkakjdifcpaaGreatProg
import Derived.Shelf.SlSortCmp.NoneTotal
import Derived.Ground.SlsfProg
import Derived.Lib.RowBridge
import Derived.Lib.SortBridge
import Derived.WalkKit
import Derived.Test.YtnbfkakjdifcpaaGreatRows
import Derived.ProofKit
import Derived.SizedLaws
set_option linter.unusedVariables false
set_option linter.unusedSimpArgs false
namespace Go.Proofs
open Go Go.RowKit Go.Sim
set_option maxRecDepth 100000
def Tryz.s7:SC:=(.seq (.ops false [zo 3 (.box 26 (zv 0)) 0,zo 6 (.assign (.const (.bool false))) 4]) (.seq (.ops false [zo 12 (.load 26 (zv 3)) 26,zo 13 (.move (zv 1)) 44,zo 14 (.move (zv 2)) 3,zo 15 (.call ⟨.value (.func 35),⟨[(zv 12),(zv 13),(zv 14)]⟩,⟨[26,44,3]⟩⟩) 37,zo 11 (.move (zv 15)) 37,zo 16 (.extract (zv 11) 0) 24,zo 17 (.extract (zv 11) 1) 27,zo 7 (.assign (zv 16)) 24,zo 8 (.assign (zv 17)) 27]) (.seq (.ops false [zo 19 (.load 26 (zv 3)) 26,zo 20 (.move (zv 1)) 44,zo 21 (.move (zv 2)) 3,zo 22 (.call ⟨.value (.func 36),⟨[(zv 19),(zv 20),(zv 21)]⟩,⟨[26,44,3]⟩⟩) 37,zo 18 (.move (zv 22)) 37,zo 23 (.extract (zv 18) 0) 24,zo 24 (.extract (zv 18) 1) 27,zo 9 (.assign (zv 23)) 24,zo 10 (.assign (zv 24)) 27]) (.seq (.ops false [zo 25 (.move (zv 7)) 24,zo 26 (.move (zv 9)) 24,zo 27 (.call ⟨.value (.func 24),⟨[(zv 25),(zv 26)]⟩,⟨[24,24]⟩⟩) 4,zo 28 (.move (zv 27)) 4,zg 29 (.move (zv 8)) 27 28 true,zg 30 (.move (zv 10)) 27 28 true,zg 31 (.binOp .eql 27 (zv 29) (zv 30) 27) 4 28 true,zo 32 (.pick (zv 28) (zv 31) (.const (.bool false))) 4,zo 33 (.move (zv 32)) 4,zg 34 (.call ⟨.value (.func 21),⟨[]⟩,⟨[]⟩⟩) 4 33 true,zo 35 (.pick (zv 33) (zv 34) (.const (.bool false))) 4,zo 6 (.assign (zv 35)) 4]) .ret))))
def Tryz.s36:SC:=(.seq (.ops false [zo 3 (.box 26 (zv 0)) 0,zo 6 (.assign (.const (.slice none 0 0))) 24,zo 7 (.assign (zk 0)) 27]) (.seq (.ops false [zo 14 (.load 26 (zv 3)) 26,zo 15 (.move (zv 1)) 44,zo 16 (.call ⟨.value (.func 72),⟨[(zv 14),(zv 15),(zk 36500)]⟩,⟨[26,44,3]⟩⟩) 113,zo 13 (.move (zv 16)) 113,zo 17 (.extract (zv 13) 0) 112,zo 18 (.extract (zv 13) 1) 3,zo 19 (.extract (zv 13) 2) 27,zo 8 (.assign (zv 17)) 112,zo 9 (.assign (zv 18)) 3,zo 10 (.assign (zv 19)) 27]) (.seq (.seq (.ops false [zo 20 (.move (zv 10)) 27,zo 21 (.binOp .neq 27 (zv 20) (zk 0) 27) 4]) (.cond (.tmp 21) (.seq (.ops false [zo 22 (.move (zv 10)) 27,zo 6 (.assign (.const (.slice none 0 0))) 24,zo 7 (.assign (zv 22)) 27]) .ret) .skip)) (.seq (.seq (.ops false [zo 23 (.move (zv 2)) 3,zo 24 (.call ⟨.value (.func 39),⟨[(zk 0),(zv 23),(zk 31)]⟩,⟨[3,3,3]⟩⟩) 4,zo 25 (.unOp .not 4 (zv 24)) 4]) (.cond (.tmp 25) (.seq (.ops false [zo 6 (.assign (.const (.slice none 0 0))) 24,zo 7 (.assign (zk 7)) 27]) .ret) .skip)) (.seq (.seq (.ops false [zo 26 (.move (zv 8)) 112,zo 27 (.nilCheck (zv 26)) 0,zo 28 (.fieldAddr 117 (zv 27) 1) 0,zo 29 (.load 115 (zv 28)) 115,zo 30 (.move (zv 2)) 3,zo 31 (.indexAddr 115 (zv 29) (zv 30)) 0,zo 32 (.fieldAddr 47 (zv 31) 0) 0,zo 33 (.load 3 (zv 32)) 3,zo 34 (.binOp .eql 3 (zv 33) (zk 0) 3) 4]) (.cond (.tmp 34) (.seq (.ops false [zo 6 (.assign (.const (.slice none 0 0))) 24,zo 7 (.assign (zk 44)) 27]) .ret) .skip)) (.seq (.ops false [zo 11 (.assign (.const (.slice none 0 0))) 24]) (.seq (.seq (.ops false [zo 12 (.assign (zk 0)) 3]) (.block 0 (.loop (.seq (.seq (.ops false [zo 35 (.move (zv 12)) 3,zo 36 (.fieldAddr 26 (zv 3) 0) 0,zo 37 (.load 22 (zv 36)) 22,zo 38 (.call ⟨.builtin .len,⟨[(zv 37)]⟩,⟨[22]⟩⟩) 3,zo 39 (.binOp .lss 3 (zv 35) (zv 38) 3) 4]) (.cond (.tmp 39) .skip (.exit 0))) (.seq (.block 1 (.seq (.ops false [zo 42 (.move (zv 8)) 112,zo 43 (.nilCheck (zv 42)) 0,zo 44 (.fieldAddr 117 (zv 43) 4) 0,zo 45 (.load 24 (zv 44)) 24,zo 46 (.move (zv 2)) 3,zo 47 (.indexAddr 24 (zv 45) (zv 46)) 0,zo 48 (.load 3 (zv 47)) 3,zo 49 (.move (zv 12)) 3,zo 50 (.call ⟨.value (.func 40),⟨[(zv 48),(zv 49)]⟩,⟨[3,3]⟩⟩) 4]) (.cond (.tmp 50) (.ops false [zo 51 (.move (zv 11)) 24,zo 52 (.load 26 (zv 3)) 26,zo 53 (.move (zv 12)) 3,zo 54 (.call ⟨.value (.func 65),⟨[(zv 52),(zv 53)]⟩,⟨[26,3]⟩⟩) 24,zo 55 (.call ⟨.builtin .append,⟨[(zv 51),(zv 54)]⟩,⟨[24,24]⟩⟩) 24,zo 11 (.assign (zv 55)) 24]) .skip))) (.ops false [zo 40 (.move (zv 12)) 3,zo 41 (.binOp .add 3 (zv 40) (zk 1) 3) 3,zo 12 (.assign (zv 41)) 3])))))) (.seq (.ops false [zo 56 (.move (zv 11)) 24,zo 57 (.call ⟨.value (.func 64),⟨[(zv 56)]⟩,⟨[24]⟩⟩) 24,zo 6 (.assign (zv 57)) 24,zo 7 (.assign (zk 0)) 27]) .ret))))))))
theorem Tryz.s7_eq:Tryz.f7.body.map sOf=some Tryz.s7:=by kernel_rfl
theorem Tryz.s36_eq:Tryz.f36.body.map sOf=some Tryz.s36:=by kernel_rfl
def allS (s:StrN) (TR i:Nat):List Nat:=(List.range i).flatMap fun r=>if TR.testBit r=true then selTo (fun g=>(endR s g 1).testBit r) (2 ^ s.staff.length) else []
theorem allS_succ (s:StrN) (TR i:Nat):allS s TR (i+1)=allS s TR i++(if TR.testBit i=true then selTo (fun g=>(endR s g 1).testBit i) (2 ^ s.staff.length) else []):=by
 unfold allS
 rw[List.range_succ,List.flatMap_append];simp
theorem allS_len {s:StrN} (hsl:s.staff.length≤6) (TR:Nat):∀ i,(allS s TR i).length≤i * 64
 | 0=>by simp[allS]
 | i+1=>by
  rw[allS_succ,List.length_append]
  have h1:=allS_len hsl TR i
  have h2:=selTo_len (fun g=>(endR s g 1).testBit i) (2 ^ s.staff.length)
  have hp:=pow6 hsl
  split
  . omega
  . simp;omega
theorem natsL_apps (A B:List Nat):natsL (A++B)=natsL A++natsL B:=by unfold natsL;rw[List.map_append]
theorem ordL_congr {L M:List Nat} (h:∀ x,L.contains x=M.contains x):ordL L=ordL M:=by
 have hr:∀ n k,rowL L n k=rowL M n k:=fun n k=>by
  unfold rowL
  apply List.filter_congr
  intro x _
  rw[h x]
 unfold ordL preL
 simp only[hr]
theorem allS_mem {s:StrN} (hs:strB s=true) {TR x:Nat}:x ∈ allS s TR s.rooms.length↔x ∈ selTo (reachB s TR) (2 ^ s.staff.length):=by
 unfold allS
 rw[List.mem_flatMap]
 have hsel:∀ (P:Nat->Bool),x ∈ selTo P (2 ^ s.staff.length)↔x < 2 ^ s.staff.length/\P x=true:=fun P=>by
  unfold selTo
  rw[List.mem_filter,List.mem_range]
 constructor
 · rintro ⟨r,hr,hx⟩
   split at hx
   . rename_i ht
     rw[hsel]at hx
     rw[hsel]
     refine⟨hx.1,?_⟩
     unfold reachB
     rw[Bool.not_eq_true',decide_eq_false_iff_not]
     intro h
     have:(endR s x 1 &&& TR).testBit r=true:=by rw[Nat.testBit_and,hx.2,ht];rfl
     rw[h,Nat.zero_testBit]at this
     cases this
   . cases hx
 · intro hx
   rw[hsel]at hx
   have h1:=hx.2
   unfold reachB at h1
   rw[Bool.not_eq_true',decide_eq_false_iff_not]at h1
   obtain ⟨r,hr⟩:∃ r,(endR s x 1 &&& TR).testBit r=true:=by
    apply Classical.byContradiction
    intro hno
    apply h1
    apply Nat.eq_of_testBit_eq
    intro r
    rw[Nat.zero_testBit]
    cases q:(endR s x 1 &&& TR).testBit r with
    | false=>rfl
    | true=>exact absurd ⟨r,q⟩ hno
   rw[Nat.testBit_and,Bool.and_eq_true]at hr
   refine⟨r,List.mem_range.2 ((endR_in hs x).2 r hr.1),?_⟩
   rw[if_pos hr.2,hsel]
   exact⟨hx.1,hr.1⟩
theorem allS_ord {s:StrN} (hs:strB s=true) (TR:Nat):minL (ordL (allS s TR s.rooms.length))=leastN (reachB s TR) s.staff.length:=by
 rw[least_ord (reachB s TR) (str_staff hs).2.1]
 congr 1
 apply ordL_congr
 intro x
 rw[Bool.eq_iff_iff,List.contains_iff_mem,List.contains_iff_mem]
 exact allS_mem hs
set_option maxHeartbeats 64000000 in
theorem SuspectsR_ok (s:StrN) (pR pG pS:Option Addr) (cR cG cS:Nat) (pL:Option Addr) (cL:Nat) (L:List CarI) (bag:Int) (w:AW) (f:Fresh w) (hA:StrAt w pR pG pS cR cG cS s) (hL:ArrOf w 8 carIC (.slice pL L.length cL) L) :
    CallT Tryz.prog Tryz.T1 (.fn (.func 36) #[]) #[.agg (strC pR pG pS cR cG cS s).toArray,.slice pL L.length cL,.int .i64 bag] w (fun v w'=>Grown w w'/\∃ u,v=.tuple #[u,.int .i64 (susE s L bag)]/\RowS 3 w.next w' u (susN s L bag)):=by
 have g1:=(Grown.refl f).push (.cells (strC pR pG pS cR cG cS s) 26 w.next 0 0)
 have O1:=Own.new f 26 (strC pR pG pS cR cG cS s)
 obtain⟨w1,hw1⟩:∃ w1,w.push (.cells (strC pR pG pS cR cG cS s) 26 w.next 0 0)=w1:=⟨_,rfl⟩
 rw[hw1]at g1 O1
 have hls:=fun w' (O:Own w' w.next 26 (strC pR pG pS cR cG cS s))=>loadAll O (n:=3) rfl (by simp[strC,oneCell])
 have hl1:=hls w1 O1
 have hp1:=play_okR s pR pG pS cR cG cS pL cL L 36500 w1 g1.2 (hA.grown g1) (hL.grown g1)
 have hrg:=fun (hs:strB s=true) (rm:Nat) (hrm:rm≤8) w' (g':Grown w w')=>reaching_ok hs rm hrm w' g'.2 (hA.grown g')
 have hE:susE s L bag=if (runI s L).2.1=0 then (if inR 0 bag 31=true then (if ((logOf L).bag bag.toNat).room=0 then 44 else 0) else 7) else ((runI s L).2.1:Int):=rfl
 have hN:susN s L bag=if susE s L bag=0 then leastN (reachB s ((logOf L).trail bag.toNat)) s.staff.length else []:=rfl
 unfold PlayR at hp1
 rw[runT_all]at hp1
 unfold strC at *
 refine callT_code rfl Tryz.func36 rfl Tryz.s36_eq rfl ?_
 delta Tryz.s36 zo zv zk
 simp -dsimp -implicitDefEqProofs (maxSteps:=2000000) (disch:=first|assumption|omega|simp only[nx];omega|(repeat apply zfp);assumption|simp only[smA];done|simp[oneCell,znp]) only[go_sem,hw1,hl1]
 try rw[hw1]
 apply callV_of (e:=rfl)
 . exact hp1
 rintro v w2 ⟨g2,hv⟩
 have gg2:=g1.trans g2
 have O12:=O1.keep g2.1
 rcases hv with ⟨he,rfl⟩|⟨he,hs,ha,hlog,hIn,hb,m,ever,ve,vs,rfl,hbn,H2⟩
 . rw[if_neg he]at hE
   have h0:¬ ((runI s L).2.1:Int)=0:=by omega
   rw[hE,if_neg h0]at hN
   rw[hE,hN]
   generalize (runI s L).2.1=E at *
   generalize (runI s L).1=A at *
   simp -dsimp -implicitDefEqProofs (maxSteps:=2000000) (disch:=first|assumption|omega|simp only[nx];omega|(repeat apply zfp);assumption|simp only[smA];done|simp[oneCell,znp]) only[go_sem,h0]
   exact⟨gg2,_,rfl,RowS.nil 3 _ _⟩
 rw[upto_whole ha,List.take_length]at hlog H2 hIn
 rw[if_pos he]at hE
 simp -dsimp -implicitDefEqProofs (maxSteps:=2000000) (disch:=first|assumption|omega|simp only[nx];omega|(repeat apply zfp);assumption|simp only[smA];done|simp[oneCell,znp]) only[go_sem]
 apply callV_of (e:=rfl)
 . exact From_ok 0 bag 31 w2
 rintro _ _ ⟨rfl,rfl⟩
 cases h1:inR 0 bag 31 with
 | false =>
  rw[h1,if_neg (by intro z;cases z)]at hE
  rw[hE,if_neg (by omega)]at hN
  rw[hE,hN]
  simp -dsimp -implicitDefEqProofs (maxSteps:=2000000) (disch:=first|assumption|omega|simp only[nx];omega|(repeat apply zfp);assumption|simp only[smA];done|simp[oneCell,znp]) only[go_sem]
  exact⟨gg2,_,rfl,RowS.nil 3 _ _⟩
 | true =>
 rw[h1,if_pos rfl]at hE
 obtain⟨n,rfl⟩:∃ n:Nat,bag=n:=⟨bag.toNat,by rw[inR_iff]at h1;omega⟩
 have hn:n < 32:=by rw[inR_iff]at h1;omega
 have hnI:(n:Int) < 32:=by omega
 rw[Int.toNat_natCast]at hE hN
 obtain⟨_,q3,_,_,q6⟩:=H2.cells
 have c0:=H2.bagCell hn 0 (by omega) (v:=.int .i64 (((logOf L).bag n).room:Int)) rfl rfl
 rw[Nat.add_zero]at c0
 have htl:=trail_lt hIn H2.ok hn
 by_cases hr:((logOf L).bag n).room=0
 . have hrI:(((logOf L).bag n).room:Int)=0:=by omega
   rw[if_pos hr]at hE
   rw[hE,if_neg (by omega)]at hN
   rw[hE,hN]
   simp -dsimp -implicitDefEqProofs (maxSteps:=2000000) (disch:=first|assumption|omega|simp only[nx];omega|(repeat apply zfp);assumption|simp only[smA];done|simp[oneCell,znp]) only[go_sem,q3,indexV_eq,hnI,c0,hrI,Nat.zero_add]
   exact⟨gg2,_,rfl,RowS.nil 3 _ _⟩
 have hrI:¬ (((logOf L).bag n).room:Int)=0:=by omega
 rw[if_neg hr]at hE
 rw[hE,if_pos rfl]at hN
 rw[hE,hN]
 have hrl:=str_rooms hs
 have hsl:=(str_staff hs).2.1
 have hal:=fun i=>allS_len hsl ((logOf L).trail n) i
 have hsu:=fun i=>allS_succ s ((logOf L).trail n) i
 have hao:=allS_ord hs ((logOf L).trail n)
 have hT32:=H2.ok.trails
 have cS:∀ w',Grown w2 w'->w'.cell? ⟨hb+1,n,none⟩=some (.int .i64 ((logOf L).trail n:Int)):=fun w' g'=>by
  have c:=(H2.grown g').since.icell (i:=n) (by rw[natsL_len,hT32];exact hn)
  have hW:W (natsL (logOf L).trails) n=((logOf L).trail n:Int):=by
   have hl:n < (logOf L).trails.length:=by omega
   simp[W,natsL,LogN.trail,List.getD,hl]
  rwa [hW]at c
 have q6s:∀ w',Grown w2 w'->w'.cell? ⟨hb+2,6,none⟩=some (.slice (some ⟨hb+1,0,none⟩) 32 32):=fun w' g'=>(H2.grown g').cells.2.2.2.2
 generalize hTR:(logOf L).trail n=TR at *
 have ha0:allS s TR 0=[]:=rfl
 have hp:=pow6 hsl
 simp -dsimp -implicitDefEqProofs (maxSteps:=2000000) (disch:=first|assumption|omega|simp only[nx];omega|(repeat apply zfp);assumption|simp only[smA];done|simp[oneCell,znp]) only[go_sem,q3,indexV_eq,hnI,c0,hrI,Nat.zero_add]
 refine loopR (fun k t ds w3=>∃ i:Nat,i≤s.rooms.length/\k=s.rooms.length - i/\ds=[]/\ev t (.tmp 2)=.int .i64 (n:Int)/\ev t (.tmp 3)=.pointer (some ⟨w.next,0,none⟩)/\ev t (.tmp 8)=.pointer (some ⟨hb+2,0,none⟩)/\ev t (.tmp 12)=.int .i64 (i:Int)/\∃ v:Value,ev t (.tmp 11)=v/\RowS 3 w2.next w3 v (allS s TR i)/\Grown w2 w3) (s.rooms.length) ?_ ?_
 . refine⟨0,by omega,by omega,rfl,?_,?_,?_,?_,_,(by simp -dsimp -implicitDefEqProofs (maxSteps:=2000000) (disch:=first|assumption|omega|simp only[nx];omega|(repeat apply zfp);assumption|simp only[smA];done|simp[oneCell,znp]) only[go_sem]),RowS.nil _ _ _,Grown.refl gg2.2⟩ <;> simp -dsimp -implicitDefEqProofs (maxSteps:=2000000) (disch:=first|assumption|omega|simp only[nx];omega|(repeat apply zfp);assumption|simp only[smA];done|simp[oneCell,znp]) only[go_sem] <;> rfl
 rintro k t ds w3 ⟨i,hii,rfl,rfl,e2,e3,e8,e12,v,e11,hR,g3⟩
 have gg3:=gg2.trans g3
 have O3:=O12.keep g3.1
 have p0:=O3.cell (o:=0) (v:=.slice pR s.rooms.length cR) rfl rfl
 have hl3:=hls w3 O3
 have hli:=hal i
 by_cases hlt:(i:Int) < (s.rooms.length:Int)
 case neg =>
  obtain rfl:i=s.rooms.length:=by omega
  have hle:=LeastR_ok (allS s TR s.rooms.length) v w3 gg3.2 (RowS.arr hR (by omega))
  rw[hao]at hle
  simp -dsimp -implicitDefEqProofs (maxSteps:=2000000) (disch:=first|assumption|omega|simp only[nx];omega|(repeat apply zfp);assumption|simp only[smA];done|simp[oneCell,znp]) only[go_sem,e2,e3,e8,e11,e12,p0,hlt,Nat.zero_add]
  apply callV_of (e:=rfl)
  . exact hle
  rintro u w4 ⟨g4,hU⟩
  simp -dsimp -implicitDefEqProofs (maxSteps:=2000000) (disch:=first|assumption|omega|simp only[nx];omega|(repeat apply zfp);assumption|simp only[smA];done|simp[oneCell,znp]) only[go_sem]
  exact⟨gg3.trans g4,_,rfl,AOwn.weak hU gg3.1.next⟩
 have hi:i < s.rooms.length:=by omega
 have c6:=q6s w3 g3
 have cT:=cS w3 g3
 have hsui:=hsu i
 simp -dsimp -implicitDefEqProofs (maxSteps:=2000000) (disch:=first|assumption|omega|simp only[nx];omega|(repeat apply zfp);assumption|simp only[smA];done|simp[oneCell,znp]) only[go_sem,e2,e3,e8,e11,e12,p0,hlt,c6,indexV_eq,hnI,cT,Nat.zero_add,Nat.mul_one]
 apply callV_of (e:=rfl)
 . exact Bit_ok TR i (by omega) (by omega) w3
 rintro _ _ ⟨rfl,rfl⟩
 cases hbt:TR.testBit i with
 | false =>
  rw[hbt,if_neg (by intro z;cases z),List.append_nil]at hsui
  simp -dsimp -implicitDefEqProofs (maxSteps:=2000000) (disch:=first|assumption|omega|simp only[nx];omega|(repeat apply zfp);assumption|simp only[smA];done|simp[oneCell,znp]) only[go_sem,e2,e3,e8,e11,e12]
  refine⟨_,by omega,i+1,by omega,rfl,rfl,by(simp only[go_sem,e2];try rfl),by(simp only[go_sem,e3];try rfl),by(simp only[go_sem,e8];try rfl),by(simp only[go_sem,e12];try rfl),v,(by(simp only[go_sem,e11];try rfl)),(by rw[hsui];exact hR),g3⟩
 | true =>
  rw[hbt,if_pos rfl]at hsui
  have hse:=selTo_len (fun g=>(endR s g 1).testBit i) (2 ^ s.staff.length)
  simp -dsimp -implicitDefEqProofs (maxSteps:=2000000) (disch:=first|assumption|omega|simp only[nx];omega|(repeat apply zfp);assumption|simp only[smA];done|simp[oneCell,znp]) only[go_sem,e2,e3,e8,e11,e12,hl3]
  apply callV_of (e:=rfl)
  . exact hrg hs i (by omega) w3 gg3
  rintro u w4 ⟨g4,hU⟩
  have hR4:=AOwn.keep hR g4.1 (Nat.le_refl _)
  have hUa:=RowS.arr hU (by omega)
  obtain⟨pu,cu,rfl,_⟩:=id hUa.open
  have hnew:=arr_new hUa icells_len (Nat.le_refl _)
  obtain⟨v5,w5,ap5,hA5,hk5,hf5,_⟩:=append_own0R Tryz.ty24 Tryz.ty3 rfl (by omega) hR4 g4.2 (by have:=g3.1.next;have:=g4.1.next;omega) rfl hnew (by rw[icells_flat_len,Nat.mul_one]) (icells_ones _) (by rw[natsL_len];omega) (by rw[natsL_len];omega)
  have hA5':RowS 3 w2.next w5 v5 (allS s TR (i+1)):=by
   rw[hsui]
   unfold RowS
   rw[natsL_apps,List.length_append,List.flatMap_append]
   rw[natsL_len]at hA5
   exact hA5
  simp -dsimp -implicitDefEqProofs (maxSteps:=2000000) (disch:=first|assumption|omega|simp only[nx];omega|(repeat apply zfp);assumption|simp only[smA];done|simp[oneCell,znp]) only[go_sem,e2,e3,e8,e11,e12,ap5]
  refine⟨_,by omega,i+1,by omega,rfl,rfl,by(simp only[go_sem,e2];try rfl),by(simp only[go_sem,e3];try rfl),by(simp only[go_sem,e8];try rfl),by(simp only[go_sem,e12];try rfl),v5,(by(simp only[go_sem];try rfl)),hA5',⟨(g3.trans g4).1.trans (hk5.mono (Nat.le_refl _)),hf5⟩⟩
theorem take_eq {L M:List Int} {i:Nat} (h:L.take i=M.take i) (a:i < L.length) (b:i < M.length):(L.take (i+1)=M.take (i+1))↔L[i]=M[i]:=by
 rw[List.take_succ_eq_append_getElem a,List.take_succ_eq_append_getElem b,h]
 exact⟨fun e=>by have:=List.append_cancel_left e;injection this,fun e=>by rw[e]⟩
set_option maxHeartbeats 4000000 in
theorem Same_ok (L M:List Int) (u v:Value) (w:AW) (hL:ArrOf w 1 icells u L) (hM:ArrOf w 1 icells v M) :
    CallT Tryz.prog Tryz.T1 (.fn (.func 24) #[]) #[u,v] w (Ret (.bool (decide (L=M))) fun w'=>w=w'):=by
 obtain⟨p,cap,rfl,_,_,hatC⟩:=id hL.open
 obtain⟨q,cq,rfl,_,_,hatH⟩:=id hM.open
 refine callT_code rfl Tryz.func24 rfl Tryz.s24_eq rfl ?_
 delta Tryz.s24 zo zt zg zv zk
 by_cases hl:(L.length:Int)=(M.length:Int)
 case neg =>
  have hd:decide ((L.length:Int)=(M.length:Int))=false:=decide_eq_false hl
  have hE:decide (L=M)=false:=decide_eq_false fun e=>hl (by rw[e])
  simp -dsimp -implicitDefEqProofs (maxSteps:=2000000) (disch:=first|assumption|omega|simp only[nx];omega|(repeat apply zfp);assumption|simp only[smA];done|simp[oneCell,znp]) only[go_sem,hd]
  refine loopR (fun k t ds w1=>∃ i:Nat,i≤0/\k=0 - i/\ds=[]/\ev t (.tmp 5)=.bool false/\w=w1) (0) ?_ ?_
  . refine⟨0,by omega,by omega,rfl,?_,rfl⟩ <;> simp -dsimp -implicitDefEqProofs (maxSteps:=2000000) (disch:=first|assumption|omega|simp only[nx];omega|(repeat apply zfp);assumption|simp only[smA];done|simp[oneCell,znp]) only[go_sem] <;> rfl
  rintro k t ds w1 ⟨i,hii,rfl,rfl,e5,hw⟩
  subst hw
  simp -dsimp -implicitDefEqProofs (maxSteps:=2000000) (disch:=first|assumption|omega|simp only[nx];omega|(repeat apply zfp);assumption|simp only[smA];done|simp[oneCell,znp]) only[go_sem,e5]
  exact⟨by rw[hE],rfl⟩
 have hd:decide ((L.length:Int)=(M.length:Int))=true:=decide_eq_true hl
 simp -dsimp -implicitDefEqProofs (maxSteps:=2000000) (disch:=first|assumption|omega|simp only[nx];omega|(repeat apply zfp);assumption|simp only[smA];done|simp[oneCell,znp]) only[go_sem,hd]
 refine loopR (fun k t ds w1=>∃ i:Nat,i≤L.length/\k=L.length - i/\ds=[]/\ev t (.tmp 0)=.slice p L.length cap/\ev t (.tmp 1)=.slice q M.length cq/\ev t (.tmp 6)=.int .i64 (i:Int)/\w=w1/\∃ B,ev t (.tmp 5)=.bool B/\(B=true->L.take i=M.take i)/\(B=false->L ≠ M)) (L.length) ?_ ?_
 . refine⟨0,by omega,by omega,rfl,?_,?_,?_,rfl,⟨true,(by simp -dsimp -implicitDefEqProofs (maxSteps:=2000000) (disch:=first|assumption|omega|simp only[nx];omega|(repeat apply zfp);assumption|simp only[smA];done|simp[oneCell,znp]) only[go_sem];try rfl),(fun _=>rfl),fun h=>by cases h⟩⟩ <;> simp -dsimp -implicitDefEqProofs (maxSteps:=2000000) (disch:=first|assumption|omega|simp only[nx];omega|(repeat apply zfp);assumption|simp only[smA];done|simp[oneCell,znp]) only[go_sem] <;> rfl
 rintro k t ds w1 ⟨i,hii,rfl,rfl,e0,e1,e6,hw,hB⟩
 subst hw
 obtain⟨B,e5,hB1,hB2⟩:=hB
 cases B with
 | false =>
  simp -dsimp -implicitDefEqProofs (maxSteps:=2000000) (disch:=first|assumption|omega|simp only[nx];omega|(repeat apply zfp);assumption|simp only[smA];done|simp[oneCell,znp]) only[go_sem,e5]
  exact⟨by rw[decide_eq_false (hB2 rfl)],rfl⟩
 | true =>
 have ha:=hB1 rfl
 by_cases hlt:(i:Int) < (L.length:Int)
 case neg =>
  obtain rfl:i=L.length:=by omega
  have hE:L=M:=by rw[List.take_of_length_le (Nat.le_refl _),List.take_of_length_le (by omega)]at ha;exact ha
  simp -dsimp -implicitDefEqProofs (maxSteps:=2000000) (disch:=first|assumption|omega|simp only[nx];omega|(repeat apply zfp);assumption|simp only[smA];done|simp[oneCell,znp]) only[go_sem,e0,e1,e5,e6,hlt]
  exact⟨by rw[decide_eq_true hE],rfl⟩
 have hlt':i < L.length:=by omega
 have hltM:i < M.length:=by omega
 have hltM':(i:Int) < (M.length:Int):=by omega
 have hte:=take_eq ha hlt' hltM
 obtain⟨b1,o1,rfl,hb1,hc1⟩:=hatC i hlt'
 obtain⟨b2,o2,rfl,hb2,hc2⟩:=hatH i hltM
 have aC:=hc1 _ (Keep.refl _ _) 0 _ rfl
 have aH:=hc2 _ (Keep.refl _ _) 0 _ rfl
 simp only[Nat.add_zero]at aC aH
 by_cases hq:L[i]=M[i]
 . have hqd:decide (L[i]=M[i])=true:=decide_eq_true hq
   simp -dsimp -implicitDefEqProofs (maxSteps:=2000000) (disch:=first|assumption|omega|simp only[nx];omega|(repeat apply zfp);assumption|simp only[smA];done|simp[oneCell,znp]) only[go_sem,e0,e1,e5,e6,hlt,hltM',indexV_eq,aC,aH,hqd]
   refine⟨_,by omega,i+1,by omega,rfl,rfl,by(simp only[go_sem,e0];try rfl),by(simp only[go_sem,e1];try rfl),by(simp only[go_sem,e6];try rfl),rfl,⟨true,(by simp -dsimp -implicitDefEqProofs (maxSteps:=2000000) (disch:=first|assumption|omega|simp only[nx];omega|(repeat apply zfp);assumption|simp only[smA];done|simp[oneCell,znp]) only[go_sem];try rfl),(fun _=>hte.2 hq),fun h=>by cases h⟩⟩
 . have hqd:decide (L[i]=M[i])=false:=decide_eq_false hq
   simp -dsimp -implicitDefEqProofs (maxSteps:=2000000) (disch:=first|assumption|omega|simp only[nx];omega|(repeat apply zfp);assumption|simp only[smA];done|simp[oneCell,znp]) only[go_sem,e0,e1,e5,e6,hlt,hltM',indexV_eq,aC,aH,hqd]
   refine⟨_,by omega,i+1,by omega,rfl,rfl,by(simp only[go_sem,e0];try rfl),by(simp only[go_sem,e1];try rfl),by(simp only[go_sem,e6];try rfl),rfl,⟨false,(by simp -dsimp -implicitDefEqProofs (maxSteps:=2000000) (disch:=first|assumption|omega|simp only[nx];omega|(repeat apply zfp);assumption|simp only[smA];done|simp[oneCell,znp]) only[go_sem];try rfl),(fun h=>by cases h),fun _ e=>hq (hte.1 (by rw[e]))⟩⟩
theorem susN_len (s:StrN) (L:List CarI) (bag:Int):(susN s L bag).length≤64:=by
 unfold susN
 split
 · rename_i h
   unfold susE at h
   split at h
   . rename_i h1
     exact leastN_len (str_staff (run_log h1).1).2.1
   . rename_i h1;omega
 . simp
set_option maxHeartbeats 64000000 in
theorem suspects_law (w:AW) (xs:List Value) (f:Fresh w) (h:HdAll Tryz.prog w [26,44,3] xs):CallT Tryz.prog Tryz.T1 (.fn (.func 7) #[]) xs.toArray w fun v _=>v=.bool true:=by
 cases h with
 | cons n1 h1 h =>
 cases h with
 | cons n2 h2 h =>
 cases h with
 | cons n3 h3 h =>
 cases h
 rename_i v1 v2 v3
 obtain⟨s,pR,pG,pS,cR,cG,cS,rfl,hA⟩:=given_strong h1
 obtain⟨pL,cL,L,rfl,hL,hPr⟩:=given_cars h2
 obtain⟨bag,rfl⟩:=given_intX h3
 clear h1 h2 h3
 show CallT Tryz.prog Tryz.T1 (.fn (.func 7) #[]) #[.agg (strC pR pG pS cR cG cS s).toArray,.slice pL L.length cL,.int .i64 bag] w _
 have g1:=(Grown.refl f).push (.cells (strC pR pG pS cR cG cS s) 26 w.next 0 0)
 have O1:=Own.new f 26 (strC pR pG pS cR cG cS s)
 obtain⟨w1,hw1⟩:∃ w1,w.push (.cells (strC pR pG pS cR cG cS s) 26 w.next 0 0)=w1:=⟨_,rfl⟩
 rw[hw1]at g1 O1
 have hls:=fun w' (O:Own w' w.next 26 (strC pR pG pS cR cG cS s))=>loadAll O (n:=3) rfl (by simp[strC,oneCell])
 have hl1:=hls w1 O1
 have hlen:=susN_len s L bag
 have hS1:=Suspects_ok s pR pG pS cR cG cS pL cL L bag w1 g1.2 (hA.grown g1) (hL.grown g1)
 have hS2:=fun w' (g':Grown w w')=>SuspectsR_ok s pR pG pS cR cG cS pL cL L bag w' g'.2 (hA.grown g') (hL.grown g')
 unfold strC at *
 refine callT_code rfl Tryz.func7 rfl Tryz.s7_eq rfl ?_
 delta Tryz.s7 zo zg zv
 simp -dsimp -implicitDefEqProofs (maxSteps:=2000000) (disch:=first|assumption|omega|simp only[nx];omega|(repeat apply zfp);assumption|simp only[smA];done|simp[oneCell,znp]) only[go_sem,hw1,hl1]
 try rw[hw1]
 apply callV_of (e:=rfl)
 . exact hS1
 rintro _ w2 ⟨g2,u,rfl,hU⟩
 have gg2:=g1.trans g2
 have O2:=O1.keep g2.1
 have hl2:=hls w2 O2
 generalize susE s L bag=E at *
 generalize susN s L bag=NN at *
 simp -dsimp -implicitDefEqProofs (maxSteps:=2000000) (disch:=first|assumption|omega|simp only[nx];omega|(repeat apply zfp);assumption|simp only[smA];done|simp[oneCell,znp]) only[go_sem,hl2]
 apply callV_of (e:=rfl)
 . exact hS2 w2 gg2
 rintro _ w3 ⟨g3,z,rfl,hZ⟩
 have aU:=(RowS.arr hU (by omega)).grown g3
 have aZ:=RowS.arr hZ (by omega)
 have hd:decide (natsL NN=natsL NN)=true:=decide_eq_true rfl
 simp -dsimp -implicitDefEqProofs (maxSteps:=2000000) (disch:=first|assumption|omega|simp only[nx];omega|(repeat apply zfp);assumption|simp only[smA];done|simp[oneCell,znp]) only[go_sem]
 apply callV_of (e:=rfl)
 . exact Same_ok _ _ _ _ w3 aU aZ
 rintro _ _ ⟨rfl,rfl⟩
 rw[hd]
 simp -dsimp -implicitDefEqProofs (maxSteps:=2000000) (disch:=first|assumption|omega|simp only[nx];omega|(repeat apply zfp);assumption|simp only[smA];done|simp[oneCell,znp]) only[go_sem]
 apply callV_of (e:=rfl)
 . exact callT_told (Q:=fun v w'=>v=.bool true/\w3=w') (v:=.bool true) (w':=w3) rfl ⟨rfl,rfl⟩
 rintro _ _ ⟨rfl,rfl⟩
 simp -dsimp -implicitDefEqProofs (maxSteps:=2000000) (disch:=first|assumption|omega|simp only[nx];omega|(repeat apply zfp);assumption|simp only[smA];done|simp[oneCell,znp]) only[go_sem]
def Tryz.s95:SC:=(.seq (.ops false [zo 4 (.assign (zk 0)) 3]) (.seq (.ops false [zo 5 (.move (zv 0)) 77,zo 6 (.call ⟨.value (.func 98),⟨[(zv 5)]⟩,⟨[77]⟩⟩) 3,zo 7 (.move (zv 1)) 77,zo 8 (.call ⟨.value (.func 98),⟨[(zv 7)]⟩,⟨[77]⟩⟩) 3,zo 9 (.call ⟨.value (.func 97),⟨[(zv 6),(zv 8)]⟩,⟨[3,3]⟩⟩) 3,zo 10 (.move (zv 0)) 77,zo 11 (.move (zv 1)) 77,zo 12 (.call ⟨.value (.func 99),⟨[(zv 10),(zv 11)]⟩,⟨[77,77]⟩⟩) 3,zo 13 (.buildSlice 24 2 ⟨[(0,(zv 9)),(1,(zv 12))]⟩) 24,zo 14 (.call ⟨.value (.func 96),⟨[(zv 13)]⟩,⟨[24]⟩⟩) 3,zo 4 (.assign (zv 14)) 3]) .ret))
def Tryz.s96:SC:=(.seq (.ops false [zo 2 (.assign (zk 0)) 3]) (.seq (.ops false [zo 3 (.assign (zk 0)) 3]) (.seq (.seq (.ops false [zo 6 (.move (zv 0)) 24,zo 7 (.call ⟨.builtin .len,⟨[(zv 6)]⟩,⟨[24]⟩⟩) 3,zo 8 (.move (zk 0)) 3]) (.block 0 (.loop (.seq (.ops false [zo 9 (.binOp .lss 3 (zv 8) (zv 7) 3) 0]) (.seq (.cond (.tmp 9) .skip (.exit 0)) (.seq (.block 1 (.seq (.ops false [zo 10 (.indexAddr 24 (zv 6) (zv 8)) 0,zo 11 (.load 3 (zv 10)) 3,zo 5 (.assign (zv 11)) 3]) (.seq (.ops false [zo 12 (.move (zv 5)) 3,zo 13 (.move (zv 3)) 3,zo 14 (.binOp .neq 3 (zv 12) (zv 13) 3) 4]) (.cond (.tmp 14) (.seq (.ops false [zo 15 (.move (zv 5)) 3,zo 2 (.assign (zv 15)) 3]) .ret) .skip)))) (.ops false [zo 16 (.binOp .add 3 (zv 8) (zk 1) 3) 3,zo 8 (.move (zv 16)) 3]))))))) (.seq (.ops false [zo 17 (.move (zv 3)) 3,zo 2 (.assign (zv 17)) 3]) .ret))))
def Tryz.s97:SC:=(.seq (.ops false [zo 4 (.assign (zk 0)) 3]) (.seq (.ops false [zo 7 (.move (zv 0)) 3,zo 8 (.call ⟨.value (.func 117),⟨[(zv 7)]⟩,⟨[3]⟩⟩) 4,zo 5 (.assign (zv 8)) 4]) (.seq (.ops false [zo 9 (.move (zv 1)) 3,zo 10 (.call ⟨.value (.func 117),⟨[(zv 9)]⟩,⟨[3]⟩⟩) 4,zo 6 (.assign (zv 10)) 4]) (.seq (.seq (.ops false [zo 11 (.move (zv 5)) 4]) (.cond (.tmp 11) (.seq (.seq (.ops false [zo 12 (.move (zv 6)) 4]) (.cond (.tmp 12) (.seq (.ops false [zo 4 (.assign (zk 0)) 3]) .ret) .skip)) (.seq (.ops false [zo 4 (.assign (.const (.int .i64 (-1)))) 3]) .ret)) .skip)) (.seq (.seq (.ops false [zo 13 (.move (zv 6)) 4]) (.cond (.tmp 13) (.seq (.ops false [zo 4 (.assign (zk 1)) 3]) .ret) .skip)) (.seq (.seq (.ops false [zo 14 (.move (zv 0)) 3,zo 15 (.move (zv 1)) 3,zo 16 (.binOp .lss 3 (zv 14) (zv 15) 3) 4]) (.cond (.tmp 16) (.seq (.ops false [zo 4 (.assign (.const (.int .i64 (-1)))) 3]) .ret) .skip)) (.seq (.seq (.ops false [zo 17 (.move (zv 0)) 3,zo 18 (.move (zv 1)) 3,zo 19 (.binOp .gtr 3 (zv 17) (zv 18) 3) 4]) (.cond (.tmp 19) (.seq (.ops false [zo 4 (.assign (zk 1)) 3]) .ret) .skip)) (.seq (.ops false [zo 4 (.assign (zk 0)) 3]) .ret))))))))
def Tryz.s99:SC:=(.seq (.ops false [zo 4 (.assign (zk 0)) 3]) (.seq (.ops false [zo 7 (.move (zv 0)) 77,zo 8 (.call ⟨.value (.func 119),⟨[(zv 7)]⟩,⟨[77]⟩⟩) 4,zo 5 (.assign (zv 8)) 4]) (.seq (.ops false [zo 9 (.move (zv 1)) 77,zo 10 (.call ⟨.value (.func 119),⟨[(zv 9)]⟩,⟨[77]⟩⟩) 4,zo 6 (.assign (zv 10)) 4]) (.seq (.seq (.ops false [zo 11 (.move (zv 5)) 4]) (.cond (.tmp 11) (.seq (.seq (.ops false [zo 12 (.move (zv 6)) 4]) (.cond (.tmp 12) (.seq (.ops false [zo 4 (.assign (zk 0)) 3]) .ret) .skip)) (.seq (.ops false [zo 4 (.assign (.const (.int .i64 (-1)))) 3]) .ret)) .skip)) (.seq (.seq (.ops false [zo 13 (.move (zv 6)) 4]) (.cond (.tmp 13) (.seq (.ops false [zo 4 (.assign (zk 1)) 3]) .ret) .skip)) (.seq (.seq (.ops false [zo 14 (.move (zv 0)) 77,zo 15 (.move (zv 1)) 77,zo 16 (.binOp .lss 77 (zv 14) (zv 15) 77) 4]) (.cond (.tmp 16) (.seq (.ops false [zo 4 (.assign (.const (.int .i64 (-1)))) 3]) .ret) .skip)) (.seq (.seq (.ops false [zo 17 (.move (zv 0)) 77,zo 18 (.move (zv 1)) 77,zo 19 (.binOp .gtr 77 (zv 17) (zv 18) 77) 4]) (.cond (.tmp 19) (.seq (.ops false [zo 4 (.assign (zk 1)) 3]) .ret) .skip)) (.seq (.ops false [zo 4 (.assign (zk 0)) 3]) .ret))))))))
def Tryz.s117:SC:=(.seq (.ops false [zo 2 (.assign (.const (.bool false))) 4]) (.seq (.ops false [zo 3 (.move (zv 0)) 3,zo 4 (.move (zv 0)) 3,zo 5 (.binOp .neq 3 (zv 3) (zv 4) 3) 4,zo 2 (.assign (zv 5)) 4]) .ret))
def Tryz.s119:SC:=(.seq (.ops false [zo 2 (.assign (.const (.bool false))) 4]) (.seq (.ops false [zo 3 (.move (zv 0)) 77,zo 4 (.move (zv 0)) 77,zo 5 (.binOp .neq 77 (zv 3) (zv 4) 77) 4,zo 2 (.assign (zv 5)) 4]) .ret))
theorem Tryz.s95_eq:Tryz.f95.body.map sOf=some Tryz.s95:=by kernel_rfl
theorem Tryz.s96_eq:Tryz.f96.body.map sOf=some Tryz.s96:=by kernel_rfl
theorem Tryz.s97_eq:Tryz.f97.body.map sOf=some Tryz.s97:=by kernel_rfl
theorem Tryz.s99_eq:Tryz.f99.body.map sOf=some Tryz.s99:=by kernel_rfl
theorem Tryz.s117_eq:Tryz.f117.body.map sOf=some Tryz.s117:=by kernel_rfl
theorem Tryz.s119_eq:Tryz.f119.body.map sOf=some Tryz.s119:=by kernel_rfl
end Go.Proofs

namespace Go.Sim
open Go Go.RowKit
theorem calls_flat {P:Program} (hP:Fit P) (hfol:P.follows .mixedOrders=true) {told:ToldF} (ht:∀ N,ToldOk P N told) {f:FuncId} {l:List Value} {v:Value} (hno:told f (l.toArray++#[]) .empty=none) (hl:flat.flats 6 l=true) (hv:flat 6 v=true)
    (h:CallT P told (.fn (.func f) #[]) l.toArray .empty fun u _=>u=v) (W:World):Calls P f l.toArray W fun e W'=>e=.returned v/\BelowD W.heap.size W W':=by
 obtain⟨N,u,w1,hh,rfl⟩:=h
 have h1:=hh N (N+1) (Nat.le_refl _) (by omega)
 have hno':told f l.toArray .empty=none:=by simpa using hno
 simp only[acall,Array.append_empty,hno']at h1
 intro cs
 have ha:ARel (fun _=>none) l.toArray l.toArray:=ARel.iff.2 (by simpa using flats_self (flat_self 6) hl _)
 obtain⟨σ',v',W',fr,s,hf,hlv,e,r⟩:=enter_leaves hP hfol (call_ok hP hfol (ht W.heap.size) N) (call_pan hP hfol (ht W.heap.size) N) h1 cs (WRel.empty W) (args':=l.toArray) ha
 have:=flat_eq 6 u hv σ' v' r
 subst this
 exact⟨.returned v',W',fr,⟨rfl,e.below⟩,s,hf,hlv⟩
theorem grown_of {W W':World} (h:BelowD W.heap.size W W'):∃ q os,W'=Go.Sort.grow (W.drewN q) os:=by
 obtain⟨⟨h1,h2,h3,h4,h5⟩,h6⟩:=h
 refine⟨W'.drawn - W.drawn,W'.heap.extract W.heap.size W'.heap.size,?_⟩
 obtain⟨hp,tp,dr,os,out⟩:=W
 obtain⟨hp',tp',dr',os',out'⟩:=W'
 simp only at *
 subst h1 h2 h3
 have e1:hp'=hp++hp'.extract hp.size hp'.size:=by
  apply Array.ext_getElem?
  intro k
  rw[Array.getElem?_append]
  split
  . rename_i hk
    exact h5 k hk
  · rename_i hk
    rw[Array.getElem?_extract]
    split
    . congr 1;omega
    . rename_i hk2
      rw[Array.getElem?_eq_none (by omega)]
 have e2:dr+(dr' - dr)=dr':=by omega
 simp only[Go.Sort.grow,World.drewN,<- e1,e2]
end Go.Sim

namespace Go.Proofs
open Go Go.RowKit Go.Sim
set_option maxRecDepth 100000
def Tryz.T0c:ToldF:=toldTab Tryz.lenTab (toldTab Tryz.popTab (toldTrue 21 fun _ _ _=>none))
def cmpI (a b:Int):Int:=if a < b then -1 else if b < a then 1 else 0
theorem isNaN_ok (x:Int) (w:AW):CallT Tryz.prog Tryz.T0c (.fn (.func 117) #[]) #[.int .i64 x] w (Ret (.bool false) fun w'=>w=w'):=by
 have d1:decide (x=x)=true:=decide_eq_true rfl
 refine callT_code rfl Tryz.func117 rfl Tryz.s117_eq rfl ?_
 delta Tryz.s117 zo zv
 simp -dsimp -implicitDefEqProofs (maxSteps:=2000000) (disch:=first|assumption|omega|simp only[nx];omega|(repeat apply zfp);assumption|simp only[smA];done|simp[oneCell,znp]) only[go_sem,d1]
 exact⟨rfl,rfl⟩
theorem isNaNP_ok (x:Int) (w:AW):CallT Tryz.prog Tryz.T0c (.fn (.func 119) #[]) #[.int .i64 x] w (Ret (.bool false) fun w'=>w=w'):=by
 have d1:decide (x=x)=true:=decide_eq_true rfl
 refine callT_code rfl Tryz.func119 rfl Tryz.s119_eq rfl ?_
 delta Tryz.s119 zo zv
 simp -dsimp -implicitDefEqProofs (maxSteps:=2000000) (disch:=first|assumption|omega|simp only[nx];omega|(repeat apply zfp);assumption|simp only[smA];done|simp[oneCell,znp]) only[go_sem,d1]
 exact⟨rfl,rfl⟩
theorem compare_ok (a b:Int) (w:AW):CallT Tryz.prog Tryz.T0c (.fn (.func 97) #[]) #[.int .i64 a,.int .i64 b] w (Ret (.int .i64 (cmpI a b)) fun w'=>w=w'):=by
 refine callT_code rfl Tryz.func97 rfl Tryz.s97_eq rfl ?_
 delta Tryz.s97 zo zv zk
 simp -dsimp -implicitDefEqProofs (maxSteps:=2000000) (disch:=first|assumption|omega|simp only[nx];omega|(repeat apply zfp);assumption|simp only[smA];done|simp[oneCell,znp]) only[go_sem]
 apply callV_of (e:=rfl)
 . exact isNaN_ok _ w
 rintro _ _ ⟨rfl,rfl⟩
 simp -dsimp -implicitDefEqProofs (maxSteps:=2000000) (disch:=first|assumption|omega|simp only[nx];omega|(repeat apply zfp);assumption|simp only[smA];done|simp[oneCell,znp]) only[go_sem]
 apply callV_of (e:=rfl)
 . exact isNaN_ok _ w
 rintro _ _ ⟨rfl,rfl⟩
 by_cases h1:a < b
 . simp -dsimp -implicitDefEqProofs (maxSteps:=2000000) (disch:=first|assumption|omega|simp only[nx];omega|(repeat apply zfp);assumption|simp only[smA];done|simp[oneCell,znp]) only[go_sem,h1]
   exact⟨by unfold cmpI;rw[if_pos h1],rfl⟩
 by_cases h2:b < a
 . have h2':a > b:=h2
   simp -dsimp -implicitDefEqProofs (maxSteps:=2000000) (disch:=first|assumption|omega|simp only[nx];omega|(repeat apply zfp);assumption|simp only[smA];done|simp[oneCell,znp]) only[go_sem,h1,h2,h2']
   exact⟨by unfold cmpI;rw[if_neg h1,if_pos h2],rfl⟩
 . have h2':¬ a > b:=h2
   simp -dsimp -implicitDefEqProofs (maxSteps:=2000000) (disch:=first|assumption|omega|simp only[nx];omega|(repeat apply zfp);assumption|simp only[smA];done|simp[oneCell,znp]) only[go_sem,h1,h2,h2']
   exact⟨by unfold cmpI;rw[if_neg h1,if_neg h2],rfl⟩
theorem compareP_ok (a b:Int) (w:AW):CallT Tryz.prog Tryz.T0c (.fn (.func 99) #[]) #[.int .i64 a,.int .i64 b] w (Ret (.int .i64 (cmpI a b)) fun w'=>w=w'):=by
 refine callT_code rfl Tryz.func99 rfl Tryz.s99_eq rfl ?_
 delta Tryz.s99 zo zv zk
 simp -dsimp -implicitDefEqProofs (maxSteps:=2000000) (disch:=first|assumption|omega|simp only[nx];omega|(repeat apply zfp);assumption|simp only[smA];done|simp[oneCell,znp]) only[go_sem]
 apply callV_of (e:=rfl)
 . exact isNaNP_ok _ w
 rintro _ _ ⟨rfl,rfl⟩
 simp -dsimp -implicitDefEqProofs (maxSteps:=2000000) (disch:=first|assumption|omega|simp only[nx];omega|(repeat apply zfp);assumption|simp only[smA];done|simp[oneCell,znp]) only[go_sem]
 apply callV_of (e:=rfl)
 . exact isNaNP_ok _ w
 rintro _ _ ⟨rfl,rfl⟩
 by_cases h1:a < b
 . simp -dsimp -implicitDefEqProofs (maxSteps:=2000000) (disch:=first|assumption|omega|simp only[nx];omega|(repeat apply zfp);assumption|simp only[smA];done|simp[oneCell,znp]) only[go_sem,h1]
   exact⟨by unfold cmpI;rw[if_pos h1],rfl⟩
 by_cases h2:b < a
 . have h2':a > b:=h2
   simp -dsimp -implicitDefEqProofs (maxSteps:=2000000) (disch:=first|assumption|omega|simp only[nx];omega|(repeat apply zfp);assumption|simp only[smA];done|simp[oneCell,znp]) only[go_sem,h1,h2,h2']
   exact⟨by unfold cmpI;rw[if_neg h1,if_pos h2],rfl⟩
 . have h2':¬ a > b:=h2
   simp -dsimp -implicitDefEqProofs (maxSteps:=2000000) (disch:=first|assumption|omega|simp only[nx];omega|(repeat apply zfp);assumption|simp only[smA];done|simp[oneCell,znp]) only[go_sem,h1,h2,h2']
   exact⟨by unfold cmpI;rw[if_neg h1,if_neg h2],rfl⟩
theorem sizeT_ok (x:Nat) (h:x < 64) (w:AW):CallT Tryz.prog Tryz.T0c (.fn (.func 98) #[]) #[.int .i64 (x:Int)] w (Ret (.int .i64 (popN x:Int)) fun w'=>w=w'):=by
 refine callT_told (v:=.int .i64 (popN x:Int)) (w':=w) ?_ ⟨rfl,rfl⟩
 show (match tabArg Tryz.popTab [.int Tryz.popTab.k (x:Int)] with|some x=>some (Tryz.popTab.g x,w)|none=>none)=_
 rw[tabArg_at (s:=Tryz.popTab) (.inl rfl) h]
 rfl
def orI (a b:Int):Int:=if a=0 then b else a
theorem or_ok (a b:Int) (bk:Nat) (w:AW) (h:Own w bk 3 [.int .i64 a,.int .i64 b]):CallT Tryz.prog Tryz.T0c (.fn (.func 96) #[]) #[.slice (some ⟨bk,0,none⟩) 2 2] w (Ret (.int .i64 (orI a b)) fun w'=>w=w'):=by
 have c0:=h.cell (o:=0) rfl rfl
 have c1:=h.cell (o:=1) rfl rfl
 refine callT_code rfl Tryz.func96 rfl Tryz.s96_eq rfl ?_
 delta Tryz.s96 zo zv zk
 simp -dsimp -implicitDefEqProofs (maxSteps:=2000000) (disch:=first|assumption|omega|simp only[nx];omega|(repeat apply zfp);assumption|simp only[smA];done|simp[oneCell,znp]) only[go_sem]
 refine loopR (fun k t ds w1=>∃ i:Nat,i≤2/\k=2 - i/\ds=[]/\ev t (.tmp 3)=.int .i64 0/\ev t (.tmp 6)=.slice (some ⟨bk,0,none⟩) 2 2/\ev t (.tmp 7)=.int .i64 2/\ev t (.tmp 8)=.int .i64 (i:Int)/\(1≤i->a=0)/\(2≤i->b=0)/\w=w1) (2) ?_ ?_
 . refine⟨0,by omega,by omega,rfl,?_,?_,?_,?_,fun h=>by omega,fun h=>by omega,rfl⟩ <;> simp -dsimp -implicitDefEqProofs (maxSteps:=2000000) (disch:=first|assumption|omega|simp only[nx];omega|(repeat apply zfp);assumption|simp only[smA];done|simp[oneCell,znp]) only[go_sem] <;> rfl
 rintro k t ds w1 ⟨i,hii,rfl,rfl,e3,e6,e7,e8,hz,hw⟩
 obtain⟨hz2,rfl⟩:=hw
 rcases Nat.lt_or_ge i 2 with hlt|hge
 case inr =>
  obtain rfl:i=2:=by omega
  have hlI:¬ ((2:Nat):Int) < 2:=by omega
  have ha:=hz (by omega)
  have hb:=hz2 (by omega)
  simp -dsimp -implicitDefEqProofs (maxSteps:=2000000) (disch:=first|assumption|omega|simp only[nx];omega|(repeat apply zfp);assumption|simp only[smA];done|simp[oneCell,znp]) only[go_sem,e3,e6,e7,e8,hlI]
  exact⟨by rw[ha,hb];rfl,rfl⟩
 have hlI:(i:Int) < 2:=by omega
 have hl0:(i:Int) < ((2:Nat):Int):=by omega
 obtain⟨v,hv⟩:∃ v,v=if i=0 then a else b:=⟨_,rfl⟩
 have ci:w.cell? ⟨bk,i,none⟩=some (.int .i64 v):=by
  rw[hv]
  rcases Nat.eq_zero_or_pos i with h0|h0
  . rw[if_pos h0,h0];exact c0
  . obtain h1:i=1:=by omega
    rw[if_neg (by omega),h1];exact c1
 by_cases h0:v=0
 · have hd:decide (v=0)=true:=decide_eq_true h0
   simp -dsimp -implicitDefEqProofs (maxSteps:=2000000) (disch:=first|assumption|omega|simp only[nx];omega|(repeat apply zfp);assumption|simp only[smA];done|simp[oneCell,znp]) only[go_sem,e3,e6,e7,e8,hlI,hl0,indexV_eq,Nat.zero_add,Nat.mul_one,ci,hd]
   have n1:1≤i+1->a=0:=fun _=>by
    rcases Nat.eq_zero_or_pos i with q|q
    . rw[if_pos q]at hv;omega
    . exact hz q
   have n2:2≤i+1->b=0:=fun _=>by
    rw[if_neg (by omega)]at hv;omega
   refine⟨_,by omega,i+1,by omega,rfl,rfl,by(simp only[go_sem,e3];try rfl),by(simp only[go_sem,e6];try rfl),by(simp only[go_sem,e7];try rfl),by(simp only[go_sem,e8];try rfl),n1,n2,rfl⟩
 . have hd:decide (v=0)=false:=decide_eq_false h0
   simp -dsimp -implicitDefEqProofs (maxSteps:=2000000) (disch:=first|assumption|omega|simp only[nx];omega|(repeat apply zfp);assumption|simp only[smA];done|simp[oneCell,znp]) only[go_sem,e3,e6,e7,e8,hlI,hl0,indexV_eq,Nat.zero_add,Nat.mul_one,ci,hd]
   refine⟨?_,rfl⟩
   unfold orI
   rcases Nat.eq_zero_or_pos i with q|q
   . rw[if_pos q]at hv;rw[if_neg (by omega),hv]
   . rw[if_neg (by omega)]at hv;rw[if_pos (hz q),hv]
theorem Tryz.bs24x2 (t:Tmps) (l:List (Nat × Operand)):makes (prg Tryz.prog) t (.buildSlice 24 2 ⟨l⟩)=bsQ 3 2 1 [.int .i64 0,.int .i64 0] (l.map fun p=>(p.1,ev t p.2)):=makes_bs Tryz.ty24 Tryz.ty3 rfl (by kernel_rfl)
theorem cmpN_is (x y:Nat):orI (cmpI (popN x:Int) (popN y:Int)) (cmpI (x:Int) (y:Int))=cmpN x y:=by
 unfold orI cmpI cmpN
 repeat' split
 all_goals omega
theorem cmpSets_ok (x y:Nat) (hx:x < 64) (hy:y < 64) (w:AW) (f:Fresh w):CallT Tryz.prog Tryz.T0c (.fn (.func 95) #[]) #[.int .i64 (x:Int),.int .i64 (y:Int)] w fun v _=>v=.int .i64 (cmpN x y):=by
 refine callT_code rfl Tryz.func95 rfl Tryz.s95_eq rfl ?_
 delta Tryz.s95 zo zv zk
 simp -dsimp -implicitDefEqProofs (maxSteps:=2000000) (disch:=first|assumption|omega|simp only[nx];omega|(repeat apply zfp);assumption|simp only[smA];done|simp[oneCell,znp]) only[go_sem]
 apply callV_of (e:=rfl)
 . exact sizeT_ok x hx w
 rintro _ _ ⟨rfl,rfl⟩
 simp -dsimp -implicitDefEqProofs (maxSteps:=2000000) (disch:=first|assumption|omega|simp only[nx];omega|(repeat apply zfp);assumption|simp only[smA];done|simp[oneCell,znp]) only[go_sem]
 apply callV_of (e:=rfl)
 . exact sizeT_ok y hy w
 rintro _ _ ⟨rfl,rfl⟩
 simp -dsimp -implicitDefEqProofs (maxSteps:=2000000) (disch:=first|assumption|omega|simp only[nx];omega|(repeat apply zfp);assumption|simp only[smA];done|simp[oneCell,znp]) only[go_sem]
 apply callV_of (e:=rfl)
 . exact compare_ok _ _ w
 rintro _ _ ⟨rfl,rfl⟩
 simp -dsimp -implicitDefEqProofs (maxSteps:=2000000) (disch:=first|assumption|omega|simp only[nx];omega|(repeat apply zfp);assumption|simp only[smA];done|simp[oneCell,znp]) only[go_sem]
 apply callV_of (e:=rfl)
 . exact compareP_ok _ _ w
 rintro _ _ ⟨rfl,rfl⟩
 simp -dsimp -implicitDefEqProofs (maxSteps:=2000000) (disch:=first|assumption|omega|simp only[nx];omega|(repeat apply zfp);assumption|simp only[smA];done|simp[oneCell,znp]) only[go_sem,Tryz.bs24x2,bsQ_21]
 apply callV_of (e:=rfl)
 . exact or_ok _ _ w.next _ (Own.new f 3 [.int .i64 (cmpI (popN x:Int) (popN y:Int)),.int .i64 (cmpI (x:Int) (y:Int))])
 rintro _ _ ⟨rfl,rfl⟩
 simp -dsimp -implicitDefEqProofs (maxSteps:=2000000) (disch:=first|assumption|omega|simp only[nx];omega|(repeat apply zfp);assumption|simp only[smA];done|simp[oneCell,znp]) only[go_sem]
 rw[cmpN_is]
end Go.Proofs

namespace Go.Sim
open Go Go.RowKit
variable {P:Program} {N F:Nat}
inductive GDat where
 | flat (v:Value)
 | sl (n c:Nat) (cells:List GDat)
 | agg (ds:List GDat)
def matchCells (m:GDat->Value->Bool) (w:AW) (b:Nat):List GDat->Nat->Bool
 | [],_=>true
 | d :: l,o=>match w.cell? ⟨b,o,none⟩ with
  | some u=>m d u && matchCells m w b l (o+1)
  | none=>false
def matchAll (m:GDat->Value->Bool):List GDat->List Value->Bool
 | [],[]=>true
 | d :: l,v :: r=>m d v && matchAll m l r
 | _,_=>false
def zeroZ (w:AW) (b:Nat):Bool :=
 match w.blk b with
 | some (.cells _ _ _ _ 0)|some (.given _)=>true
 | _=>false
def matchV (w:AW):Nat->GDat->Value->Bool
 | 0,_,_=>false
 | k+1,d,v=>match d,v with
  | .flat u,v=>flat 6 u && same 12 u v
  | .sl n c cells,.slice (some ⟨b,o,none⟩) n' c'=>Nat.beq n n' && Nat.beq c c' && Nat.blt 0 c && zeroZ w b && matchCells (matchV w k) w b cells o
  | .agg ds,.agg cs=>matchAll (matchV w k) ds cs.toList
  | _,_=>false
def giveAll (g:GDat->AW->Value × AW):List GDat->AW->List Value × AW
 | [],w=>([],w)
 | d :: l,w=>match g d w with
  | (u,w1)=>match giveAll g l w1 with
   | (us,w2)=>(u :: us,w2)
def giveV:Nat->GDat->AW->Value × AW
 | 0,_,w=>(undef,w)
 | k + 1,d,w=>match d with
  | .flat u=>(u,w)
  | .sl n c cells=>match giveAll (giveV k) cells w with
   | (us,w1)=>(.slice (some ⟨w1.next,0,none⟩) n c,w1.push (.given us))
  | .agg ds=>match giveAll (giveV k) ds w with
   | (us,w1)=>(.agg us.toArray,w1)
def GiveOk (W:World) (m:GDat->Value->Bool) (g:GDat->AW->Value × AW) (σ:Emb):Prop :=
 ∀ d v v',m d v=true->VRel σ v v'->∀ (σ0:Emb) (w0:AW),WRel W.heap.size σ0 w0 W->∃ σ1:Emb,σ0.le σ1/\WRel W.heap.size σ1 (g d w0).2 W/\VRel σ1 (g d w0).1 v'
theorem giveAll_ok {W:World} {m:GDat->Value->Bool} {g:GDat->AW->Value × AW} {σ:Emb} (h:GiveOk W m g σ):∀ (ds:List GDat) (vs vs':List Value),matchAll m ds vs=true->LRel σ vs vs'->∀ (σ0:Emb) (w0:AW),WRel W.heap.size σ0 w0 W ->
    ∃ σ1:Emb,σ0.le σ1/\WRel W.heap.size σ1 (giveAll g ds w0).2 W/\LRel σ1 (giveAll g ds w0).1 vs'
 | [],[],vs',_,hr,σ0,w0,hw=>by
  cases hr
  exact⟨σ0,.refl _,hw,.nil⟩
 | d :: l,v :: r,vs',hm,hr,σ0,w0,hw=>by
  cases hr with
  | cons h1 h2 =>
   simp only[matchAll,Bool.and_eq_true]at hm
   obtain⟨σ1,a1,a2,a3⟩:=h d v _ hm.1 h1 σ0 w0 hw
   obtain⟨σ2,b1,b2,b3⟩:=giveAll_ok h l r _ hm.2 h2 σ1 _ a2
   exact⟨σ2,a1.trans b1,b2,.cons (a3.mono b1) b3⟩
 | [],_ :: _,_,h,_,_,_,_=>by simp[matchAll]at h
 | _ :: _,[],_,h,_,_,_,_=>by simp[matchAll]at h
theorem cells_list {W:World} {w:AW} {σ:Emb} {N:Nat} (hw:WRel N σ w W) {m:GDat->Value->Bool} {b:Nat} {x:Loc} (hb:σ b=some x):∀ (ds:List GDat) (o:Nat),matchCells m w b ds o=true ->
    ∃ vs vs':List Value,matchAll m ds vs=true/\LRel σ vs vs'/\vs'.length=ds.length/\∀ (i:Nat) u,vs'[i]? = some u->W.cell? ⟨x.c,x.s+(o+i),none⟩=some u
 | [],o,_=>⟨[],[],rfl,.nil,rfl,fun i u h=>by simp at h⟩
 | d :: l,o,h=>by
  simp only[matchCells]at h
  split at h
  case h_2=>cases h
  rename_i u hu
  simp only[Bool.and_eq_true]at h
  obtain⟨u',h1,h2,_⟩:=hw.cell hb hu
  obtain⟨vs,vs',a1,a2,a3,a4⟩:=cells_list hw hb l (o+1) h.2
  refine⟨u :: vs,u' :: vs',by simp only[matchAll,Bool.and_eq_true];exact⟨h.1,a1⟩,.cons h2 a2,by simp[a3],fun i q hq=>?_⟩
  cases i with
  | zero=>simp at hq;subst hq;exact h1
  | succ i=>simp at hq;have:=a4 i q hq;rw[show o+(i+1)=o+1+i by omega];exact this
theorem give_ok {W:World} {w:AW} {σ:Emb} (hw:WRel N σ w W):∀ k,GiveOk W (matchV w k) (giveV k) σ
 | 0=>fun d v v' h=>by simp[matchV]at h
 | k + 1 => by
  have ih:=give_ok hw k
  intro d v v' hm hr σ0 w0 h0
  unfold matchV at hm
  split at hm
  . rename_i u
    simp only[Bool.and_eq_true]at hm
    have:=same_eq 12 _ _ hm.2
    subst this
    have e:=flat_eq 6 _ hm.1 σ v' hr
    subst e
    exact⟨σ0,.refl _,h0,flat_self 6 _ hm.1 σ0⟩
  · rename_i n c cells b o n' c'
    simp only[Bool.and_eq_true]at hm
    obtain⟨⟨⟨⟨h1,h2⟩,h5⟩,h3⟩,h4⟩:=hm
    obtain rfl:=Nat.eq_of_beq_eq_true h1
    obtain rfl:=Nat.eq_of_beq_eq_true h2
    have hzx:∀ x,σ b=some x->x.z=0:=by
     intro x hx
     obtain⟨_,q,hq,hl,hb⟩:=hw.dom b x hx
     unfold zeroZ at h3
     rw[hq]at h3
     cases q with
     | cells c0 e0 r0 b0 z0 =>
      split at h3
      . rename_i e;injection e with e;injection e with _ _ _ _ e;subst e;exact hb.1
      . rename_i e;injection e with e;cases e
      . cases h3
     | given c0=>exact hl.1
     | _=>simp at h3
    cases hr with
    | slice hx hk hcap =>
     rename_i k' x
     have hz:=hzx x hx
     have hkk:k'=c:=by rcases hcap with q|q;exact q;omega
     subst hkk
     obtain⟨vs,vs',b1,b2,b3,b4⟩:=cells_list hw hx cells o h4
     obtain⟨σ1,a1,a2,a3⟩:=giveAll_ok ih cells vs vs' b1 b2 σ0 w0 h0
     simp only[giveV]
     have hlen:=a3.length
     refine⟨σ1.with (giveAll (giveV k) cells w0).2.next ⟨x.c,x.s+o,0,0⟩,a1.trans (Emb.le_with a2.fresh _),WRel.give a2 _ _ rfl ?_ ?_,?_⟩
     · cases hv:(giveAll (giveV k) cells w0).1 with
       | nil=>exact .inl rfl
       | cons y ys =>
        right
        rw[hv]at hlen
        have h1:=b4 0 (vs'[0]'(by rw[<- hlen];simp)) (by simp)
        obtain⟨cc,ce,fr,q,_⟩:=cell_at h1
        rcases Nat.lt_or_ge x.c W.heap.size with q'|q'
        . exact q'
        . rw[Array.getElem?_eq_none q']at q;cases q
     . intro i u hi hone
       obtain⟨u',hu',r⟩:=a3.getSome hi
       obtain⟨cc,ce,fr,q,q2⟩:=cell_at (b4 i u' hu')
       exact⟨cc,ce,fr,u',q,by rw[show x.s+o+i=x.s+(o+i) by omega];exact q2,r⟩
     . exact VRel.slice (x:=⟨x.c,x.s+o,0,0⟩) (o:=0) (Emb.with_self _ _ _) (Nat.le_refl _) (.inl rfl)
    | tail hx a=>exact absurd (Nat.blt_eq.mp h5) (by omega)
  · rename_i ds cs
    cases hr with
    | agg ha hav =>
     rename_i cs'
     have hl:LRel σ cs.toList cs'.toList:=ARel.iff.1 (by exact⟨ha,hav⟩)
     obtain⟨σ1,a1,a2,a3⟩:=giveAll_ok ih ds cs.toList cs'.toList hm hl σ0 w0 h0
     exact⟨σ1,a1,a2,VRel.agg_of (ARel.iff.2 (by simpa [giveV] using a3))⟩
  . cases hm
theorem calls_give (hP:Fit P) (hfol:P.follows .mixedOrders=true) {told:ToldF} (ht:∀ N,ToldOk P N told) {n k:Nat} {f:FuncId} {ds:List GDat} {v:Value} (hno:(told f ((giveAll (giveV k) ds .empty).1.toArray++#[]) (giveAll (giveV k) ds .empty).2).isNone=true) (hv:flat 6 v=true)
    (h:isVal (xcall (prg P) (xsOf (prg P)) told F (n+1) (.fn (.func f) #[]) (giveAll (giveV k) ds .empty).1 (giveAll (giveV k) ds .empty).2) v=true) {N:Nat} {σ:Emb} {w:AW} {W:World} (hw:WRel N σ w W) {args args':List Value} (hm:matchAll (matchV w k) ds args=true) (hr:LRel σ args args') :
    Calls P f args'.toArray W fun e W'=>e=.returned v/\BelowD W.heap.size W W':=by
 obtain⟨σ0,_,g2,g3⟩:=giveAll_ok (give_ok hw k) ds args args' hm hr (fun _=>none) .empty (WRel.empty W)
 generalize (giveAll (giveV k) ds .empty).1=us at *
 generalize (giveAll (giveV k) ds .empty).2=w0 at *
 rw[xcall_eq hP.funcs]at h
 unfold isVal at h
 split at h
 case h_2=>cases h
 rename_i u w1 hr'
 have hu:=same_eq 12 _ _ h
 subst hu
 simp only[acall]at hr'
 rw[Option.isNone_iff_eq_none.mp hno]at hr'
 simp only[Array.append_empty]at hr'
 intro cs
 have ha:ARel σ0 us.toArray args'.toArray:=ARel.iff.2 (by simpa using g3)
 obtain⟨σ',v',W',fr,s,hf,hlv,e,r⟩:=enter_leaves hP hfol (call_ok hP hfol (ht W.heap.size) n) (call_pan hP hfol (ht W.heap.size) n) hr' cs g2 (args':=args'.toArray) ha
 have:=flat_eq 6 v hv σ' v' r
 subst this
 exact⟨.returned v',W',fr,⟨rfl,e.below⟩,s,hf,hlv⟩
structure GMemo where
 f:FuncId
 k:Nat
 ds:List GDat
 val:Value
def findG (f:FuncId) (args:List Value) (w:AW):List GMemo->Option Value
 | []=>none
 | m :: l=>match Nat.beq f m.f with
  | true=>match matchAll (matchV w m.k) m.ds args with
   | true=>some m.val
   | false=>findG f args w l
  | false=>findG f args w l
def toldGive (tab:List GMemo) (told:ToldF):ToldF:=fun f args w =>
 match findG f args.toList w tab with
 | some v=>some (v,w)
 | none=>told f args w
structure GMemoOk (P:Program) (m:GMemo):Prop where
 enters:∀ args w,(callFunc m.f args).run P w=.ok (.enter m.f args) w
 flatVal:flat 6 m.val=true
 calls:∀ (N:Nat) (σ:Emb) (w:AW) (W:World),WRel N σ w W->∀ args args',matchAll (matchV w m.k) m.ds args=true->LRel σ args args'->Calls P m.f args'.toArray W fun e W'=>e=.returned m.val/\BelowD W.heap.size W W'
inductive GMemosOk (P:Program):List GMemo->Prop where
 | nil:GMemosOk P []
 | cons {m:GMemo} {l:List GMemo} (h:GMemoOk P m) (t:GMemosOk P l):GMemosOk P (m :: l)
theorem findG_ok {f:FuncId} {args:List Value} {w:AW} {v:Value}:∀ {tab:List GMemo},GMemosOk P tab->findG f args w tab=some v->∃ m,GMemoOk P m/\m.f=f/\matchAll (matchV w m.k) m.ds args=true/\m.val=v
 | _,.nil,h=>by cases h
 | _, .cons hm ht,h=>by
  simp only[findG]at h
  split at h
  · rename_i hf
    split at h
    . rename_i hs
      injection h with h
      exact⟨_,hm,(Nat.eq_of_beq_eq_true hf).symm,hs,h⟩
    . exact findG_ok ht h
  . exact findG_ok ht h
theorem toldGive_ok {tab:List GMemo} (hm:GMemosOk P tab) {told:ToldF} (ht:∀ N,ToldOk P N told) (N:Nat):ToldOk P N (toldGive tab told):=by
 intro f args w w1 v h σ W args0 cap c cs hw ha
 unfold toldGive at h
 split at h
 . rename_i u hu
   injection h with h;injection h with h1 h2
   subst h1 h2
   obtain⟨m,hok,rfl,hargs,rfl⟩:=findG_ok hm hu
   have hc:=hok.calls N σ w W hw args.toList (args0++cap).toList hargs (ARel.iff.1 ha)
   rw[show (args0++cap).toList.toArray=args0++cap from rfl]at hc
   obtain⟨W',d1,d2⟩:=delivers_calls hok.enters hc c cs
   exact⟨σ,_,W',d1,hw.aside d2,flat_self 6 _ hok.flatVal σ⟩
 . exact ht N f args w w1 v h σ W args0 cap c cs hw ha
end Go.Sim

namespace Go.Proofs
open Go Go.Shelf Go.RowKit Go.Sim
set_option maxRecDepth 1000000
theorem Tryz.fits:Fit Tryz.prog:=fit_of (by decide +kernel)
theorem Tryz.mixed:Tryz.prog.follows .mixedOrders=true:=by decide +kernel
theorem Tryz.told0 (N:Nat):ToldOk Tryz.prog N (fun _ _ _=>none):=fun f args w w1 v h=>by cases h
end Go.Proofs

namespace Go.Proofs
open Go Go.RowKit Go.Sim
set_option maxRecDepth 1000000
abbrev zi (n:Int):GDat:=.flat (.int .i64 n)
def Tryz.give0:GMemo:=⟨15,12,[.agg [.sl 3 3 [zi 0,zi 0,zi 0,zi 2,zi 0,zi 4,zi 1,zi 1,zi 0],.sl 3 3 [zi 0,zi 1,zi 1,.sl 1 1 [zi 1],zi 1,zi 2,zi 2,.sl 1 1 [zi 6],zi 0,zi 2,zi 1,.sl 1 1 [zi 8]],.sl 3 3 [zi 1,zi 2,zi 3]],zi 3],.tuple #[.int .i64 (7),.int .i64 (0)]⟩
theorem Tryz.give0_ok:GMemoOk Tryz.prog Tryz.give0:={
 enters:=fun args w=>Tryz.call15 args w
 flatVal:=by decide
 calls:=fun N σ w W hw args args' hm hr=>calls_give (F:=1000000) (told:=fun _ _ _=>none) Tryz.fits Tryz.mixed Tryz.told0 (n:=99) (k:=12) (ds:=Tryz.give0.ds) (by rfl) (by decide) (by decide +kernel) hw hm hr }
def Tryz.give1:GMemo:=⟨17,12,[.agg [.sl 3 3 [zi 0,zi 0,zi 0,zi 2,zi 0,zi 4,zi 1,zi 1,zi 0],.sl 3 3 [zi 0,zi 1,zi 1,.sl 1 1 [zi 1],zi 1,zi 2,zi 2,.sl 1 1 [zi 6],zi 0,zi 2,zi 1,.sl 1 1 [zi 8]],.sl 3 3 [zi 1,zi 2,zi 3]]],.int .i64 (0)⟩
theorem Tryz.give1_ok:GMemoOk Tryz.prog Tryz.give1:={
 enters:=fun args w=>Tryz.call17 args w
 flatVal:=by decide
 calls:=fun N σ w W hw args args' hm hr=>calls_give (F:=1000000) (told:=fun _ _ _=>none) Tryz.fits Tryz.mixed Tryz.told0 (n:=99) (k:=12) (ds:=Tryz.give1.ds) (by rfl) (by decide) (by decide +kernel) hw hm hr }
def Tryz.give2:GMemo:=⟨19,12,[.agg [.sl 3 3 [zi 0,zi 0,zi 0,zi 2,zi 0,zi 4,zi 1,zi 1,zi 0],.sl 3 3 [zi 0,zi 1,zi 1,.sl 1 1 [zi 1],zi 1,zi 2,zi 2,.sl 1 1 [zi 6],zi 0,zi 2,zi 1,.sl 1 1 [zi 8]],.sl 3 3 [zi 1,zi 2,zi 3]],zi 1,zi 3],.tuple #[.bool true,.int .i64 (0)]⟩
theorem Tryz.give2_ok:GMemoOk Tryz.prog Tryz.give2:={
 enters:=fun args w=>Tryz.call19 args w
 flatVal:=by decide
 calls:=fun N σ w W hw args args' hm hr=>calls_give (F:=1000000) (told:=fun _ _ _=>none) Tryz.fits Tryz.mixed Tryz.told0 (n:=99) (k:=12) (ds:=Tryz.give2.ds) (by rfl) (by decide) (by decide +kernel) hw hm hr }
def Tryz.give3:GMemo:=⟨31,12,[.agg [.sl 3 3 [zi 0,zi 0,zi 0,zi 2,zi 0,zi 4,zi 1,zi 1,zi 0],.sl 3 3 [zi 0,zi 1,zi 1,.sl 1 1 [zi 1],zi 1,zi 2,zi 2,.sl 1 1 [zi 6],zi 0,zi 2,zi 1,.sl 1 1 [zi 8]],.sl 3 3 [zi 1,zi 2,zi 3]],.sl 3 3 [zi 5,zi 1,zi 7,zi 1,zi 0,zi 1,zi 10,zi 3,zi 6,zi 2,zi 7,zi 2,zi 1,zi 2,zi 0,zi 0,zi 8,zi 3,zi 7,zi 0,zi 0,zi 1,zi 10,zi 0]],.tuple #[.agg #[.int .i64 (0),.int .i64 (0),.int .i64 (0),.int .i64 (0),.int .i64 (0),.int .i64 (0),.int .i64 (0),.int .i64 (0),.int .i64 (0),.int .i64 (0),.int .i64 (0),.int .i64 (0),.int .i64 (0),.int .i64 (0),.int .i64 (0),.int .i64 (0),.int .i64 (0),.int .i64 (0),.int .i64 (0),.int .i64 (0),.int .i64 (0),.int .i64 (0),.int .i64 (0),.int .i64 (0),.int .i64 (0),.int .i64 (0),.int .i64 (0),.int .i64 (0),.int .i64 (0),.int .i64 (0),.int .i64 (0),.int .i64 (0),.int .i64 (0),.int .i64 (0),.int .i64 (0),.int .i64 (2),.int .i64 (10),.int .i64 (3),.int .i64 (0),.int .i64 (1),.int .i64 (0),.int .i64 (0),.int .i64 (0),.int .i64 (0),.int .i64 (0),.int .i64 (0),.int .i64 (0),.int .i64 (0),.int .i64 (0),.int .i64 (0),.int .i64 (0),.int .i64 (0),.int .i64 (0),.int .i64 (0),.int .i64 (0),.int .i64 (0),.int .i64 (0),.int .i64 (0),.int .i64 (0),.int .i64 (0),.int .i64 (0),.int .i64 (0),.int .i64 (0),.int .i64 (0),.int .i64 (0),.int .i64 (0),.int .i64 (0),.int .i64 (0),.int .i64 (0),.int .i64 (0),.int .i64 (0),.int .i64 (0),.int .i64 (0),.int .i64 (0),.int .i64 (0),.int .i64 (0),.int .i64 (0),.int .i64 (0),.int .i64 (0),.int .i64 (0),.int .i64 (0),.int .i64 (0),.int .i64 (0),.int .i64 (0),.int .i64 (0),.int .i64 (0),.int .i64 (0),.int .i64 (0),.int .i64 (0),.int .i64 (0),.int .i64 (0),.int .i64 (0),.int .i64 (0),.int .i64 (0),.int .i64 (0),.int .i64 (0),.int .i64 (0),.int .i64 (0),.int .i64 (0),.int .i64 (0),.int .i64 (0),.int .i64 (0),.int .i64 (0),.int .i64 (0),.int .i64 (0),.int .i64 (0),.int .i64 (0),.int .i64 (0),.int .i64 (0),.int .i64 (0),.int .i64 (0),.int .i64 (0),.int .i64 (0),.int .i64 (0),.int .i64 (0),.int .i64 (0),.int .i64 (0),.int .i64 (0),.int .i64 (0),.int .i64 (0),.int .i64 (0),.int .i64 (0),.int .i64 (0),.int .i64 (0),.int .i64 (0),.int .i64 (0),.int .i64 (0),.int .i64 (0),.int .i64 (0),.int .i64 (0),.int .i64 (0),.int .i64 (0),.int .i64 (0),.int .i64 (0),.int .i64 (0),.int .i64 (0),.int .i64 (0),.int .i64 (0),.int .i64 (0),.int .i64 (0),.int .i64 (0),.int .i64 (0),.int .i64 (0),.int .i64 (0),.int .i64 (0),.int .i64 (0),.int .i64 (0),.int .i64 (0),.int .i64 (0),.int .i64 (0),.int .i64 (0),.int .i64 (0),.int .i64 (0),.int .i64 (0),.int .i64 (0),.int .i64 (0),.int .i64 (0),.int .i64 (0),.int .i64 (0),.int .i64 (0)],.int .i64 (3),.int .i64 (0)]⟩
theorem Tryz.give3_ok:GMemoOk Tryz.prog Tryz.give3:={
 enters:=fun args w=>Tryz.call31 args w
 flatVal:=by decide
 calls:=fun N σ w W hw args args' hm hr=>calls_give (F:=1000000) (told:=fun _ _ _=>none) Tryz.fits Tryz.mixed Tryz.told0 (n:=99) (k:=12) (ds:=Tryz.give3.ds) (by rfl) (by decide) (by decide +kernel) hw hm hr }
def Tryz.give4:GMemo:=⟨33,12,[.agg [.sl 3 3 [zi 0,zi 0,zi 0,zi 2,zi 0,zi 4,zi 1,zi 1,zi 0],.sl 3 3 [zi 0,zi 1,zi 1,.sl 1 1 [zi 1],zi 1,zi 2,zi 2,.sl 1 1 [zi 6],zi 0,zi 2,zi 1,.sl 1 1 [zi 8]],.sl 3 3 [zi 1,zi 2,zi 3]],.sl 3 3 [zi 5,zi 1,zi 7,zi 1,zi 0,zi 1,zi 10,zi 3,zi 6,zi 2,zi 7,zi 2,zi 1,zi 2,zi 0,zi 0,zi 8,zi 3,zi 7,zi 0,zi 0,zi 1,zi 10,zi 0],zi 7,zi 5],.tuple #[.int .i64 (1),.int .i64 (0)]⟩
theorem Tryz.give4_ok:GMemoOk Tryz.prog Tryz.give4:={
 enters:=fun args w=>Tryz.call33 args w
 flatVal:=by decide
 calls:=fun N σ w W hw args args' hm hr=>calls_give (F:=1000000) (told:=fun _ _ _=>none) Tryz.fits Tryz.mixed Tryz.told0 (n:=99) (k:=12) (ds:=Tryz.give4.ds) (by rfl) (by decide) (by decide +kernel) hw hm hr }
def Tryz.give5:GMemo:=⟨58,12,[.agg [.sl 3 3 [zi 0,zi 0,zi 0,zi 2,zi 0,zi 4,zi 1,zi 1,zi 0],.sl 3 3 [zi 0,zi 1,zi 1,.sl 1 1 [zi 1],zi 1,zi 2,zi 2,.sl 1 1 [zi 6],zi 0,zi 2,zi 1,.sl 1 1 [zi 8]],.sl 3 3 [zi 1,zi 2,zi 3]],zi 1],.int .i64 (0)⟩
theorem Tryz.give5_ok:GMemoOk Tryz.prog Tryz.give5:={
 enters:=fun args w=>Tryz.call58 args w
 flatVal:=by decide
 calls:=fun N σ w W hw args args' hm hr=>calls_give (F:=1000000) (told:=fun _ _ _=>none) Tryz.fits Tryz.mixed Tryz.told0 (n:=99) (k:=12) (ds:=Tryz.give5.ds) (by rfl) (by decide) (by decide +kernel) hw hm hr }
def Tryz.give6:GMemo:=⟨58,12,[.agg [.sl 3 3 [zi 0,zi 0,zi 0,zi 2,zi 0,zi 4,zi 1,zi 1,zi 0],.sl 3 3 [zi 0,zi 1,zi 1,.sl 1 1 [zi 1],zi 1,zi 2,zi 2,.sl 1 1 [zi 6],zi 0,zi 2,zi 1,.sl 1 1 [zi 8]],.sl 3 3 [zi 1,zi 2,zi 3]],zi 2],.int .i64 (0)⟩
theorem Tryz.give6_ok:GMemoOk Tryz.prog Tryz.give6:={
 enters:=fun args w=>Tryz.call58 args w
 flatVal:=by decide
 calls:=fun N σ w W hw args args' hm hr=>calls_give (F:=1000000) (told:=fun _ _ _=>none) Tryz.fits Tryz.mixed Tryz.told0 (n:=99) (k:=12) (ds:=Tryz.give6.ds) (by rfl) (by decide) (by decide +kernel) hw hm hr }
def Tryz.give7:GMemo:=⟨67,12,[.agg [.sl 3 3 [zi 0,zi 0,zi 0,zi 2,zi 0,zi 4,zi 1,zi 1,zi 0],.sl 3 3 [zi 0,zi 1,zi 1,.sl 1 1 [zi 1],zi 1,zi 2,zi 2,.sl 1 1 [zi 6],zi 0,zi 2,zi 1,.sl 1 1 [zi 8]],.sl 3 3 [zi 1,zi 2,zi 3]],zi 0,zi 2],.bool false⟩
theorem Tryz.give7_ok:GMemoOk Tryz.prog Tryz.give7:={
 enters:=fun args w=>Tryz.call67 args w
 flatVal:=by decide
 calls:=fun N σ w W hw args args' hm hr=>calls_give (F:=1000000) (told:=fun _ _ _=>none) Tryz.fits Tryz.mixed Tryz.told0 (n:=99) (k:=12) (ds:=Tryz.give7.ds) (by rfl) (by decide) (by decide +kernel) hw hm hr }
def Tryz.give8:GMemo:=⟨67,12,[.agg [.sl 3 3 [zi 0,zi 0,zi 0,zi 2,zi 0,zi 4,zi 1,zi 1,zi 0],.sl 3 3 [zi 0,zi 1,zi 1,.sl 1 1 [zi 1],zi 1,zi 2,zi 2,.sl 1 1 [zi 6],zi 0,zi 2,zi 1,.sl 1 1 [zi 8]],.sl 3 3 [zi 1,zi 2,zi 3]],zi 0,zi 4],.bool false⟩
theorem Tryz.give8_ok:GMemoOk Tryz.prog Tryz.give8:={
 enters:=fun args w=>Tryz.call67 args w
 flatVal:=by decide
 calls:=fun N σ w W hw args args' hm hr=>calls_give (F:=1000000) (told:=fun _ _ _=>none) Tryz.fits Tryz.mixed Tryz.told0 (n:=99) (k:=12) (ds:=Tryz.give8.ds) (by rfl) (by decide) (by decide +kernel) hw hm hr }
def Tryz.give9:GMemo:=⟨67,12,[.agg [.sl 3 3 [zi 0,zi 0,zi 0,zi 2,zi 0,zi 4,zi 1,zi 1,zi 0],.sl 3 3 [zi 0,zi 1,zi 1,.sl 1 1 [zi 1],zi 1,zi 2,zi 2,.sl 1 1 [zi 6],zi 0,zi 2,zi 1,.sl 1 1 [zi 8]],.sl 3 3 [zi 1,zi 2,zi 3]],zi 0,zi 6],.bool false⟩
theorem Tryz.give9_ok:GMemoOk Tryz.prog Tryz.give9:={
 enters:=fun args w=>Tryz.call67 args w
 flatVal:=by decide
 calls:=fun N σ w W hw args args' hm hr=>calls_give (F:=1000000) (told:=fun _ _ _=>none) Tryz.fits Tryz.mixed Tryz.told0 (n:=99) (k:=12) (ds:=Tryz.give9.ds) (by rfl) (by decide) (by decide +kernel) hw hm hr }
def Tryz.give10:GMemo:=⟨67,12,[.agg [.sl 3 3 [zi 0,zi 0,zi 0,zi 2,zi 0,zi 4,zi 1,zi 1,zi 0],.sl 3 3 [zi 0,zi 1,zi 1,.sl 1 1 [zi 1],zi 1,zi 2,zi 2,.sl 1 1 [zi 6],zi 0,zi 2,zi 1,.sl 1 1 [zi 8]],.sl 3 3 [zi 1,zi 2,zi 3]],zi 1,zi 2],.bool true⟩
theorem Tryz.give10_ok:GMemoOk Tryz.prog Tryz.give10:={
 enters:=fun args w=>Tryz.call67 args w
 flatVal:=by decide
 calls:=fun N σ w W hw args args' hm hr=>calls_give (F:=1000000) (told:=fun _ _ _=>none) Tryz.fits Tryz.mixed Tryz.told0 (n:=99) (k:=12) (ds:=Tryz.give10.ds) (by rfl) (by decide) (by decide +kernel) hw hm hr }
def Tryz.give11:GMemo:=⟨67,12,[.agg [.sl 3 3 [zi 0,zi 0,zi 0,zi 2,zi 0,zi 4,zi 1,zi 1,zi 0],.sl 3 3 [zi 0,zi 1,zi 1,.sl 1 1 [zi 1],zi 1,zi 2,zi 2,.sl 1 1 [zi 6],zi 0,zi 2,zi 1,.sl 1 1 [zi 8]],.sl 3 3 [zi 1,zi 2,zi 3]],zi 1,zi 4],.bool false⟩
theorem Tryz.give11_ok:GMemoOk Tryz.prog Tryz.give11:={
 enters:=fun args w=>Tryz.call67 args w
 flatVal:=by decide
 calls:=fun N σ w W hw args args' hm hr=>calls_give (F:=1000000) (told:=fun _ _ _=>none) Tryz.fits Tryz.mixed Tryz.told0 (n:=99) (k:=12) (ds:=Tryz.give11.ds) (by rfl) (by decide) (by decide +kernel) hw hm hr }
def Tryz.give12:GMemo:=⟨67,12,[.agg [.sl 3 3 [zi 0,zi 0,zi 0,zi 2,zi 0,zi 4,zi 1,zi 1,zi 0],.sl 3 3 [zi 0,zi 1,zi 1,.sl 1 1 [zi 1],zi 1,zi 2,zi 2,.sl 1 1 [zi 6],zi 0,zi 2,zi 1,.sl 1 1 [zi 8]],.sl 3 3 [zi 1,zi 2,zi 3]],zi 1,zi 6],.bool true⟩
theorem Tryz.give12_ok:GMemoOk Tryz.prog Tryz.give12:={
 enters:=fun args w=>Tryz.call67 args w
 flatVal:=by decide
 calls:=fun N σ w W hw args args' hm hr=>calls_give (F:=1000000) (told:=fun _ _ _=>none) Tryz.fits Tryz.mixed Tryz.told0 (n:=99) (k:=12) (ds:=Tryz.give12.ds) (by rfl) (by decide) (by decide +kernel) hw hm hr }
def Tryz.give13:GMemo:=⟨67,12,[.agg [.sl 3 3 [zi 0,zi 0,zi 0,zi 2,zi 0,zi 4,zi 1,zi 1,zi 0],.sl 3 3 [zi 0,zi 1,zi 1,.sl 1 1 [zi 1],zi 1,zi 2,zi 2,.sl 1 1 [zi 6],zi 0,zi 2,zi 1,.sl 1 1 [zi 8]],.sl 3 3 [zi 1,zi 2,zi 3]],zi 2,zi 2],.bool false⟩
theorem Tryz.give13_ok:GMemoOk Tryz.prog Tryz.give13:={
 enters:=fun args w=>Tryz.call67 args w
 flatVal:=by decide
 calls:=fun N σ w W hw args args' hm hr=>calls_give (F:=1000000) (told:=fun _ _ _=>none) Tryz.fits Tryz.mixed Tryz.told0 (n:=99) (k:=12) (ds:=Tryz.give13.ds) (by rfl) (by decide) (by decide +kernel) hw hm hr }
def Tryz.give14:GMemo:=⟨67,12,[.agg [.sl 3 3 [zi 0,zi 0,zi 0,zi 2,zi 0,zi 4,zi 1,zi 1,zi 0],.sl 3 3 [zi 0,zi 1,zi 1,.sl 1 1 [zi 1],zi 1,zi 2,zi 2,.sl 1 1 [zi 6],zi 0,zi 2,zi 1,.sl 1 1 [zi 8]],.sl 3 3 [zi 1,zi 2,zi 3]],zi 2,zi 4],.bool false⟩
theorem Tryz.give14_ok:GMemoOk Tryz.prog Tryz.give14:={
 enters:=fun args w=>Tryz.call67 args w
 flatVal:=by decide
 calls:=fun N σ w W hw args args' hm hr=>calls_give (F:=1000000) (told:=fun _ _ _=>none) Tryz.fits Tryz.mixed Tryz.told0 (n:=99) (k:=12) (ds:=Tryz.give14.ds) (by rfl) (by decide) (by decide +kernel) hw hm hr }
def Tryz.give15:GMemo:=⟨67,12,[.agg [.sl 3 3 [zi 0,zi 0,zi 0,zi 2,zi 0,zi 4,zi 1,zi 1,zi 0],.sl 3 3 [zi 0,zi 1,zi 1,.sl 1 1 [zi 1],zi 1,zi 2,zi 2,.sl 1 1 [zi 6],zi 0,zi 2,zi 1,.sl 1 1 [zi 8]],.sl 3 3 [zi 1,zi 2,zi 3]],zi 2,zi 6],.bool false⟩
theorem Tryz.give15_ok:GMemoOk Tryz.prog Tryz.give15:={
 enters:=fun args w=>Tryz.call67 args w
 flatVal:=by decide
 calls:=fun N σ w W hw args args' hm hr=>calls_give (F:=1000000) (told:=fun _ _ _=>none) Tryz.fits Tryz.mixed Tryz.told0 (n:=99) (k:=12) (ds:=Tryz.give15.ds) (by rfl) (by decide) (by decide +kernel) hw hm hr }
def Tryz.give16:GMemo:=⟨67,12,[.agg [.sl 3 3 [zi 0,zi 0,zi 0,zi 2,zi 0,zi 4,zi 1,zi 1,zi 0],.sl 3 3 [zi 0,zi 1,zi 1,.sl 1 1 [zi 1],zi 1,zi 2,zi 2,.sl 1 1 [zi 6],zi 0,zi 2,zi 1,.sl 1 1 [zi 8]],.sl 3 3 [zi 1,zi 2,zi 3]],zi 3,zi 2],.bool true⟩
theorem Tryz.give16_ok:GMemoOk Tryz.prog Tryz.give16:={
 enters:=fun args w=>Tryz.call67 args w
 flatVal:=by decide
 calls:=fun N σ w W hw args args' hm hr=>calls_give (F:=1000000) (told:=fun _ _ _=>none) Tryz.fits Tryz.mixed Tryz.told0 (n:=99) (k:=12) (ds:=Tryz.give16.ds) (by rfl) (by decide) (by decide +kernel) hw hm hr }
def Tryz.give17:GMemo:=⟨67,12,[.agg [.sl 3 3 [zi 0,zi 0,zi 0,zi 2,zi 0,zi 4,zi 1,zi 1,zi 0],.sl 3 3 [zi 0,zi 1,zi 1,.sl 1 1 [zi 1],zi 1,zi 2,zi 2,.sl 1 1 [zi 6],zi 0,zi 2,zi 1,.sl 1 1 [zi 8]],.sl 3 3 [zi 1,zi 2,zi 3]],zi 3,zi 4],.bool true⟩
theorem Tryz.give17_ok:GMemoOk Tryz.prog Tryz.give17:={
 enters:=fun args w=>Tryz.call67 args w
 flatVal:=by decide
 calls:=fun N σ w W hw args args' hm hr=>calls_give (F:=1000000) (told:=fun _ _ _=>none) Tryz.fits Tryz.mixed Tryz.told0 (n:=99) (k:=12) (ds:=Tryz.give17.ds) (by rfl) (by decide) (by decide +kernel) hw hm hr }
def Tryz.give18:GMemo:=⟨67,12,[.agg [.sl 3 3 [zi 0,zi 0,zi 0,zi 2,zi 0,zi 4,zi 1,zi 1,zi 0],.sl 3 3 [zi 0,zi 1,zi 1,.sl 1 1 [zi 1],zi 1,zi 2,zi 2,.sl 1 1 [zi 6],zi 0,zi 2,zi 1,.sl 1 1 [zi 8]],.sl 3 3 [zi 1,zi 2,zi 3]],zi 3,zi 6],.bool true⟩
theorem Tryz.give18_ok:GMemoOk Tryz.prog Tryz.give18:={
 enters:=fun args w=>Tryz.call67 args w
 flatVal:=by decide
 calls:=fun N σ w W hw args args' hm hr=>calls_give (F:=1000000) (told:=fun _ _ _=>none) Tryz.fits Tryz.mixed Tryz.told0 (n:=99) (k:=12) (ds:=Tryz.give18.ds) (by rfl) (by decide) (by decide +kernel) hw hm hr }
def Tryz.give19:GMemo:=⟨67,12,[.agg [.sl 3 3 [zi 0,zi 0,zi 0,zi 2,zi 0,zi 4,zi 1,zi 1,zi 0],.sl 3 3 [zi 0,zi 1,zi 1,.sl 1 1 [zi 1],zi 1,zi 2,zi 2,.sl 1 1 [zi 6],zi 0,zi 2,zi 1,.sl 1 1 [zi 8]],.sl 3 3 [zi 1,zi 2,zi 3]],zi 4,zi 2],.bool true⟩
theorem Tryz.give19_ok:GMemoOk Tryz.prog Tryz.give19:={
 enters:=fun args w=>Tryz.call67 args w
 flatVal:=by decide
 calls:=fun N σ w W hw args args' hm hr=>calls_give (F:=1000000) (told:=fun _ _ _=>none) Tryz.fits Tryz.mixed Tryz.told0 (n:=99) (k:=12) (ds:=Tryz.give19.ds) (by rfl) (by decide) (by decide +kernel) hw hm hr }
def Tryz.give20:GMemo:=⟨67,12,[.agg [.sl 3 3 [zi 0,zi 0,zi 0,zi 2,zi 0,zi 4,zi 1,zi 1,zi 0],.sl 3 3 [zi 0,zi 1,zi 1,.sl 1 1 [zi 1],zi 1,zi 2,zi 2,.sl 1 1 [zi 6],zi 0,zi 2,zi 1,.sl 1 1 [zi 8]],.sl 3 3 [zi 1,zi 2,zi 3]],zi 4,zi 4],.bool false⟩
theorem Tryz.give20_ok:GMemoOk Tryz.prog Tryz.give20:={
 enters:=fun args w=>Tryz.call67 args w
 flatVal:=by decide
 calls:=fun N σ w W hw args args' hm hr=>calls_give (F:=1000000) (told:=fun _ _ _=>none) Tryz.fits Tryz.mixed Tryz.told0 (n:=99) (k:=12) (ds:=Tryz.give20.ds) (by rfl) (by decide) (by decide +kernel) hw hm hr }
def Tryz.give21:GMemo:=⟨67,12,[.agg [.sl 3 3 [zi 0,zi 0,zi 0,zi 2,zi 0,zi 4,zi 1,zi 1,zi 0],.sl 3 3 [zi 0,zi 1,zi 1,.sl 1 1 [zi 1],zi 1,zi 2,zi 2,.sl 1 1 [zi 6],zi 0,zi 2,zi 1,.sl 1 1 [zi 8]],.sl 3 3 [zi 1,zi 2,zi 3]],zi 4,zi 6],.bool true⟩
theorem Tryz.give21_ok:GMemoOk Tryz.prog Tryz.give21:={
 enters:=fun args w=>Tryz.call67 args w
 flatVal:=by decide
 calls:=fun N σ w W hw args args' hm hr=>calls_give (F:=1000000) (told:=fun _ _ _=>none) Tryz.fits Tryz.mixed Tryz.told0 (n:=99) (k:=12) (ds:=Tryz.give21.ds) (by rfl) (by decide) (by decide +kernel) hw hm hr }
def Tryz.give22:GMemo:=⟨67,12,[.agg [.sl 3 3 [zi 0,zi 0,zi 0,zi 2,zi 0,zi 4,zi 1,zi 1,zi 0],.sl 3 3 [zi 0,zi 1,zi 1,.sl 1 1 [zi 1],zi 1,zi 2,zi 2,.sl 1 1 [zi 6],zi 0,zi 2,zi 1,.sl 1 1 [zi 8]],.sl 3 3 [zi 1,zi 2,zi 3]],zi 5,zi 2],.bool true⟩
theorem Tryz.give22_ok:GMemoOk Tryz.prog Tryz.give22:={
 enters:=fun args w=>Tryz.call67 args w
 flatVal:=by decide
 calls:=fun N σ w W hw args args' hm hr=>calls_give (F:=1000000) (told:=fun _ _ _=>none) Tryz.fits Tryz.mixed Tryz.told0 (n:=99) (k:=12) (ds:=Tryz.give22.ds) (by rfl) (by decide) (by decide +kernel) hw hm hr }
def Tryz.give23:GMemo:=⟨67,12,[.agg [.sl 3 3 [zi 0,zi 0,zi 0,zi 2,zi 0,zi 4,zi 1,zi 1,zi 0],.sl 3 3 [zi 0,zi 1,zi 1,.sl 1 1 [zi 1],zi 1,zi 2,zi 2,.sl 1 1 [zi 6],zi 0,zi 2,zi 1,.sl 1 1 [zi 8]],.sl 3 3 [zi 1,zi 2,zi 3]],zi 5,zi 4],.bool true⟩
theorem Tryz.give23_ok:GMemoOk Tryz.prog Tryz.give23:={
 enters:=fun args w=>Tryz.call67 args w
 flatVal:=by decide
 calls:=fun N σ w W hw args args' hm hr=>calls_give (F:=1000000) (told:=fun _ _ _=>none) Tryz.fits Tryz.mixed Tryz.told0 (n:=99) (k:=12) (ds:=Tryz.give23.ds) (by rfl) (by decide) (by decide +kernel) hw hm hr }
def Tryz.give24:GMemo:=⟨67,12,[.agg [.sl 3 3 [zi 0,zi 0,zi 0,zi 2,zi 0,zi 4,zi 1,zi 1,zi 0],.sl 3 3 [zi 0,zi 1,zi 1,.sl 1 1 [zi 1],zi 1,zi 2,zi 2,.sl 1 1 [zi 6],zi 0,zi 2,zi 1,.sl 1 1 [zi 8]],.sl 3 3 [zi 1,zi 2,zi 3]],zi 5,zi 6],.bool true⟩
theorem Tryz.give24_ok:GMemoOk Tryz.prog Tryz.give24:={
 enters:=fun args w=>Tryz.call67 args w
 flatVal:=by decide
 calls:=fun N σ w W hw args args' hm hr=>calls_give (F:=1000000) (told:=fun _ _ _=>none) Tryz.fits Tryz.mixed Tryz.told0 (n:=99) (k:=12) (ds:=Tryz.give24.ds) (by rfl) (by decide) (by decide +kernel) hw hm hr }
def Tryz.give25:GMemo:=⟨67,12,[.agg [.sl 3 3 [zi 0,zi 0,zi 0,zi 2,zi 0,zi 4,zi 1,zi 1,zi 0],.sl 3 3 [zi 0,zi 1,zi 1,.sl 1 1 [zi 1],zi 1,zi 2,zi 2,.sl 1 1 [zi 6],zi 0,zi 2,zi 1,.sl 1 1 [zi 8]],.sl 3 3 [zi 1,zi 2,zi 3]],zi 6,zi 2],.bool true⟩
theorem Tryz.give25_ok:GMemoOk Tryz.prog Tryz.give25:={
 enters:=fun args w=>Tryz.call67 args w
 flatVal:=by decide
 calls:=fun N σ w W hw args args' hm hr=>calls_give (F:=1000000) (told:=fun _ _ _=>none) Tryz.fits Tryz.mixed Tryz.told0 (n:=99) (k:=12) (ds:=Tryz.give25.ds) (by rfl) (by decide) (by decide +kernel) hw hm hr }
def Tryz.give26:GMemo:=⟨67,12,[.agg [.sl 3 3 [zi 0,zi 0,zi 0,zi 2,zi 0,zi 4,zi 1,zi 1,zi 0],.sl 3 3 [zi 0,zi 1,zi 1,.sl 1 1 [zi 1],zi 1,zi 2,zi 2,.sl 1 1 [zi 6],zi 0,zi 2,zi 1,.sl 1 1 [zi 8]],.sl 3 3 [zi 1,zi 2,zi 3]],zi 6,zi 4],.bool true⟩
theorem Tryz.give26_ok:GMemoOk Tryz.prog Tryz.give26:={
 enters:=fun args w=>Tryz.call67 args w
 flatVal:=by decide
 calls:=fun N σ w W hw args args' hm hr=>calls_give (F:=1000000) (told:=fun _ _ _=>none) Tryz.fits Tryz.mixed Tryz.told0 (n:=99) (k:=12) (ds:=Tryz.give26.ds) (by rfl) (by decide) (by decide +kernel) hw hm hr }
def Tryz.give27:GMemo:=⟨67,12,[.agg [.sl 3 3 [zi 0,zi 0,zi 0,zi 2,zi 0,zi 4,zi 1,zi 1,zi 0],.sl 3 3 [zi 0,zi 1,zi 1,.sl 1 1 [zi 1],zi 1,zi 2,zi 2,.sl 1 1 [zi 6],zi 0,zi 2,zi 1,.sl 1 1 [zi 8]],.sl 3 3 [zi 1,zi 2,zi 3]],zi 6,zi 6],.bool true⟩
theorem Tryz.give27_ok:GMemoOk Tryz.prog Tryz.give27:={
 enters:=fun args w=>Tryz.call67 args w
 flatVal:=by decide
 calls:=fun N σ w W hw args args' hm hr=>calls_give (F:=1000000) (told:=fun _ _ _=>none) Tryz.fits Tryz.mixed Tryz.told0 (n:=99) (k:=12) (ds:=Tryz.give27.ds) (by rfl) (by decide) (by decide +kernel) hw hm hr }
def Tryz.give28:GMemo:=⟨67,12,[.agg [.sl 3 3 [zi 0,zi 0,zi 0,zi 2,zi 0,zi 4,zi 1,zi 1,zi 0],.sl 3 3 [zi 0,zi 1,zi 1,.sl 1 1 [zi 1],zi 1,zi 2,zi 2,.sl 1 1 [zi 6],zi 0,zi 2,zi 1,.sl 1 1 [zi 8]],.sl 3 3 [zi 1,zi 2,zi 3]],zi 7,zi 2],.bool true⟩
theorem Tryz.give28_ok:GMemoOk Tryz.prog Tryz.give28:={
 enters:=fun args w=>Tryz.call67 args w
 flatVal:=by decide
 calls:=fun N σ w W hw args args' hm hr=>calls_give (F:=1000000) (told:=fun _ _ _=>none) Tryz.fits Tryz.mixed Tryz.told0 (n:=99) (k:=12) (ds:=Tryz.give28.ds) (by rfl) (by decide) (by decide +kernel) hw hm hr }
def Tryz.give29:GMemo:=⟨67,12,[.agg [.sl 3 3 [zi 0,zi 0,zi 0,zi 2,zi 0,zi 4,zi 1,zi 1,zi 0],.sl 3 3 [zi 0,zi 1,zi 1,.sl 1 1 [zi 1],zi 1,zi 2,zi 2,.sl 1 1 [zi 6],zi 0,zi 2,zi 1,.sl 1 1 [zi 8]],.sl 3 3 [zi 1,zi 2,zi 3]],zi 7,zi 4],.bool true⟩
theorem Tryz.give29_ok:GMemoOk Tryz.prog Tryz.give29:={
 enters:=fun args w=>Tryz.call67 args w
 flatVal:=by decide
 calls:=fun N σ w W hw args args' hm hr=>calls_give (F:=1000000) (told:=fun _ _ _=>none) Tryz.fits Tryz.mixed Tryz.told0 (n:=99) (k:=12) (ds:=Tryz.give29.ds) (by rfl) (by decide) (by decide +kernel) hw hm hr }
def Tryz.give30:GMemo:=⟨67,12,[.agg [.sl 3 3 [zi 0,zi 0,zi 0,zi 2,zi 0,zi 4,zi 1,zi 1,zi 0],.sl 3 3 [zi 0,zi 1,zi 1,.sl 1 1 [zi 1],zi 1,zi 2,zi 2,.sl 1 1 [zi 6],zi 0,zi 2,zi 1,.sl 1 1 [zi 8]],.sl 3 3 [zi 1,zi 2,zi 3]],zi 7,zi 6],.bool true⟩
theorem Tryz.give30_ok:GMemoOk Tryz.prog Tryz.give30:={
 enters:=fun args w=>Tryz.call67 args w
 flatVal:=by decide
 calls:=fun N σ w W hw args args' hm hr=>calls_give (F:=1000000) (told:=fun _ _ _=>none) Tryz.fits Tryz.mixed Tryz.told0 (n:=99) (k:=12) (ds:=Tryz.give30.ds) (by rfl) (by decide) (by decide +kernel) hw hm hr }
def Tryz.give31:GMemo:=⟨103,12,[.agg [.sl 3 3 [zi 0,zi 0,zi 0,zi 2,zi 0,zi 4,zi 1,zi 1,zi 0],.sl 3 3 [zi 0,zi 1,zi 1,.sl 1 1 [zi 1],zi 1,zi 2,zi 2,.sl 1 1 [zi 6],zi 0,zi 2,zi 1,.sl 1 1 [zi 8]],.sl 3 3 [zi 1,zi 2,zi 3]],.sl 2 3 [zi 5,zi 1,zi 7,zi 1,zi 0,zi 1,zi 10,zi 3,zi 6,zi 2,zi 7,zi 2,zi 1,zi 2,zi 0,zi 0,zi 8,zi 3,zi 7,zi 0,zi 0,zi 1,zi 10,zi 0]],.bool true⟩
theorem Tryz.give31_ok:GMemoOk Tryz.prog Tryz.give31:={
 enters:=fun args w=>Tryz.call103 args w
 flatVal:=by decide
 calls:=fun N σ w W hw args args' hm hr=>calls_give (F:=1000000) (told:=fun _ _ _=>none) Tryz.fits Tryz.mixed Tryz.told0 (n:=99) (k:=12) (ds:=Tryz.give31.ds) (by rfl) (by decide) (by decide +kernel) hw hm hr }
def Tryz.give32:GMemo:=⟨111,12,[.agg [.sl 3 3 [zi 0,zi 0,zi 0,zi 2,zi 0,zi 4,zi 1,zi 1,zi 0],.sl 3 3 [zi 0,zi 1,zi 1,.sl 1 1 [zi 1],zi 1,zi 2,zi 2,.sl 1 1 [zi 6],zi 0,zi 2,zi 1,.sl 1 1 [zi 8]],.sl 3 3 [zi 1,zi 2,zi 3],zi 3,zi 1],.agg [zi 0,zi 1,zi 1,.sl 1 1 [zi 1]]],.bool true⟩
theorem Tryz.give32_ok:GMemoOk Tryz.prog Tryz.give32:={
 enters:=fun args w=>Tryz.call111 args w
 flatVal:=by decide
 calls:=fun N σ w W hw args args' hm hr=>calls_give (F:=1000000) (told:=fun _ _ _=>none) Tryz.fits Tryz.mixed Tryz.told0 (n:=99) (k:=12) (ds:=Tryz.give32.ds) (by rfl) (by decide) (by decide +kernel) hw hm hr }
def Tryz.give33:GMemo:=⟨111,12,[.agg [.sl 3 3 [zi 0,zi 0,zi 0,zi 2,zi 0,zi 4,zi 1,zi 1,zi 0],.sl 3 3 [zi 0,zi 1,zi 1,.sl 1 1 [zi 1],zi 1,zi 2,zi 2,.sl 1 1 [zi 6],zi 0,zi 2,zi 1,.sl 1 1 [zi 8]],.sl 3 3 [zi 1,zi 2,zi 3],zi 3,zi 1],.agg [zi 0,zi 2,zi 1,.sl 1 1 [zi 8]]],.bool false⟩
theorem Tryz.give33_ok:GMemoOk Tryz.prog Tryz.give33:={
 enters:=fun args w=>Tryz.call111 args w
 flatVal:=by decide
 calls:=fun N σ w W hw args args' hm hr=>calls_give (F:=1000000) (told:=fun _ _ _=>none) Tryz.fits Tryz.mixed Tryz.told0 (n:=99) (k:=12) (ds:=Tryz.give33.ds) (by rfl) (by decide) (by decide +kernel) hw hm hr }
def Tryz.give34:GMemo:=⟨111,12,[.agg [.sl 3 3 [zi 0,zi 0,zi 0,zi 2,zi 0,zi 4,zi 1,zi 1,zi 0],.sl 3 3 [zi 0,zi 1,zi 1,.sl 1 1 [zi 1],zi 1,zi 2,zi 2,.sl 1 1 [zi 6],zi 0,zi 2,zi 1,.sl 1 1 [zi 8]],.sl 3 3 [zi 1,zi 2,zi 3],zi 3,zi 3],.agg [zi 1,zi 2,zi 2,.sl 1 1 [zi 6]]],.bool true⟩
theorem Tryz.give34_ok:GMemoOk Tryz.prog Tryz.give34:={
 enters:=fun args w=>Tryz.call111 args w
 flatVal:=by decide
 calls:=fun N σ w W hw args args' hm hr=>calls_give (F:=1000000) (told:=fun _ _ _=>none) Tryz.fits Tryz.mixed Tryz.told0 (n:=99) (k:=12) (ds:=Tryz.give34.ds) (by rfl) (by decide) (by decide +kernel) hw hm hr }
def Tryz.gives:List GMemo:=[Tryz.give0,Tryz.give1,Tryz.give2,Tryz.give3,Tryz.give4,Tryz.give5,Tryz.give6,Tryz.give7,Tryz.give8,Tryz.give9,Tryz.give10,Tryz.give11,Tryz.give12,Tryz.give13,Tryz.give14,Tryz.give15,Tryz.give16,Tryz.give17,Tryz.give18,Tryz.give19,Tryz.give20,Tryz.give21,Tryz.give22,Tryz.give23,Tryz.give24,Tryz.give25,Tryz.give26,Tryz.give27,Tryz.give28,Tryz.give29,Tryz.give30,Tryz.give31,Tryz.give32,Tryz.give33,Tryz.give34]
theorem Tryz.gives_ok:GMemosOk Tryz.prog Tryz.gives:=.cons Tryz.give0_ok (.cons Tryz.give1_ok (.cons Tryz.give2_ok (.cons Tryz.give3_ok (.cons Tryz.give4_ok (.cons Tryz.give5_ok (.cons Tryz.give6_ok (.cons Tryz.give7_ok (.cons Tryz.give8_ok (.cons Tryz.give9_ok (.cons Tryz.give10_ok (.cons Tryz.give11_ok (.cons Tryz.give12_ok (.cons Tryz.give13_ok (.cons Tryz.give14_ok (.cons Tryz.give15_ok (.cons Tryz.give16_ok (.cons Tryz.give17_ok (.cons Tryz.give18_ok (.cons Tryz.give19_ok (.cons Tryz.give20_ok (.cons Tryz.give21_ok (.cons Tryz.give22_ok (.cons Tryz.give23_ok (.cons Tryz.give24_ok (.cons Tryz.give25_ok (.cons Tryz.give26_ok (.cons Tryz.give27_ok (.cons Tryz.give28_ok (.cons Tryz.give29_ok (.cons Tryz.give30_ok (.cons Tryz.give31_ok (.cons Tryz.give32_ok (.cons Tryz.give33_ok (.cons Tryz.give34_ok (.nil)))))))))))))))))))))))))))))))))))
def Tryz.toldG:ToldF:=toldGive Tryz.gives (fun _ _ _=>none)
theorem Tryz.toldG_ok (N:Nat):ToldOk Tryz.prog N Tryz.toldG:=toldGive_ok Tryz.gives_ok Tryz.told0 N
theorem Tryz.works (W:World):Calls Tryz.prog 21 #[] W fun e W'=>e=.returned (.bool true)/\BelowD W.heap.size W W' :=
 calls_true (F:=1000000) Tryz.fits Tryz.mixed Tryz.toldG_ok (n:=99) (by decide +kernel) (by decide +kernel) W
def Tryz.T0:ToldF:=toldTrue 21 fun _ _ _=>none
theorem Tryz.toldT0 (N:Nat):ToldOk Tryz.prog N Tryz.T0:=toldTrue_ok (fun args w=>Tryz.call21 args w) Tryz.works (fun N=>fun f args w w1 v h=>by cases h) N
end Go.Proofs

namespace Go.Proofs
open Go.Shelf
def Tryz.sortL_ren:Go.Shelf.Ren:=⟨fun|6=>94|15=>116|14=>115|28=>140|29=>141|20=>132|21=>133|22=>134|23=>135|24=>136|25=>137|26=>138|27=>139|46=>154|47=>155|48=>156|49=>157|50=>158|57=>164|n=>n,fun|22=>135|24=>77|25=>139|3=>3|39=>150|0=>0|53=>167|55=>169|4=>4|46=>160|45=>159|50=>164|5=>5|9=>9|66=>182|70=>186|76=>191|77=>192|n=>n,fun|n=>n⟩
theorem Tryz.sortL:Go.Proofs.SlLaysF.n6 Tryz.prog Tryz.sortL_ren:={
 mixed:=by kernel_rfl
 f6:=⟨Tryz.f94.name,by decide,Tryz.func94.trans (congrArg some (by kernel_rfl))⟩
 f14:=⟨Tryz.f115.name,by decide,Tryz.func115.trans (congrArg some (by kernel_rfl))⟩
 f15:=Tryz.func116.trans (congrArg some (by kernel_rfl))
 f20:=⟨Tryz.f132.name,by decide,Tryz.func132.trans (congrArg some (by kernel_rfl))⟩
 f21:=⟨Tryz.f133.name,by decide,Tryz.func133.trans (congrArg some (by kernel_rfl))⟩
 f22:=⟨Tryz.f134.name,by decide,Tryz.func134.trans (congrArg some (by kernel_rfl))⟩
 f23:=⟨Tryz.f135.name,by decide,Tryz.func135.trans (congrArg some (by kernel_rfl))⟩
 f24:=⟨Tryz.f136.name,by decide,Tryz.func136.trans (congrArg some (by kernel_rfl))⟩
 f25:=⟨Tryz.f137.name,by decide,Tryz.func137.trans (congrArg some (by kernel_rfl))⟩
 f26:=⟨Tryz.f138.name,by decide,Tryz.func138.trans (congrArg some (by kernel_rfl))⟩
 f27:=⟨Tryz.f139.name,by decide,Tryz.func139.trans (congrArg some (by kernel_rfl))⟩
 f28:=Tryz.func140.trans (congrArg some (by kernel_rfl))
 f29:=Tryz.func141.trans (congrArg some (by kernel_rfl))
 f46:=⟨Tryz.f154.name,by decide,Tryz.func154.trans (congrArg some (by kernel_rfl))⟩
 f47:=Tryz.func155.trans (congrArg some (by kernel_rfl))
 f48:=Tryz.func156.trans (congrArg some (by kernel_rfl))
 f49:=⟨Tryz.f157.name,by decide,Tryz.func157.trans (congrArg some (by kernel_rfl))⟩
 f50:=⟨Tryz.f158.name,by decide,Tryz.func158.trans (congrArg some (by kernel_rfl))⟩
 f57:=⟨Tryz.f164.name,by decide,Tryz.func164.trans (congrArg some (by kernel_rfl))⟩
 t0:=Tryz.underlying0
 a0:=Tryz.isAgg0
 z0:=Tryz.sizeOf0
 v0:=Tryz.zeroValue0
 t3:=Tryz.underlying3
 a3:=Tryz.isAgg3
 z3:=Tryz.sizeOf3
 v3:=Tryz.zeroValue3
 t4:=Tryz.underlying4
 a4:=Tryz.isAgg4
 z4:=Tryz.sizeOf4
 v4:=Tryz.zeroValue4
 t5:=Tryz.underlying5
 a5:=Tryz.isAgg5
 z5:=Tryz.sizeOf5
 v5:=Tryz.zeroValue5
 t9:=Tryz.underlying9
 a9:=Tryz.isAgg9
 z9:=Tryz.sizeOf9
 v9:=Tryz.zeroValue9
 t22:=Tryz.underlying135
 a22:=Tryz.isAgg135
 z22:=Tryz.sizeOf135
 v22:=Tryz.zeroValue135
 a24:=Tryz.isAgg77
 z24:=Tryz.sizeOf77
 t25:=Tryz.underlying139
 a25:=Tryz.isAgg139
 z25:=Tryz.sizeOf139
 v25:=Tryz.zeroValue139
 t39:=Tryz.underlying150
 a39:=Tryz.isAgg150
 z39:=Tryz.sizeOf150
 v39:=Tryz.zeroValue150
 t45:=Tryz.underlying159
 a45:=Tryz.isAgg159
 z45:=Tryz.sizeOf159
 v45:=Tryz.zeroValue159
 t46:=Tryz.underlying160
 a46:=Tryz.isAgg160
 z46:=Tryz.sizeOf160
 v46:=Tryz.zeroValue160
 t50:=Tryz.underlying164
 a50:=Tryz.isAgg164
 z50:=Tryz.sizeOf164
 v50:=Tryz.zeroValue164
 t53:=Tryz.underlying167
 a53:=Tryz.isAgg167
 z53:=Tryz.sizeOf167
 v53:=Tryz.zeroValue167
 t55:=Tryz.underlying169
 a55:=Tryz.isAgg169
 z55:=Tryz.sizeOf169
 v55:=Tryz.zeroValue169
 t66:=Tryz.underlying182
 a66:=Tryz.isAgg182
 z66:=Tryz.sizeOf182
 v66:=Tryz.zeroValue182
 t70:=Tryz.underlying186
 a70:=Tryz.isAgg186
 z70:=Tryz.sizeOf186
 v70:=Tryz.zeroValue186
 t76:=Tryz.underlying191
 a76:=Tryz.isAgg191
 z76:=Tryz.sizeOf191
 v76:=Tryz.zeroValue191
 t77:=Tryz.underlying192
 a77:=Tryz.isAgg192
 z77:=Tryz.sizeOf192
 v77:=Tryz.zeroValue192 }
end Go.Proofs
namespace Go.Proofs
open Go Go.Shelf Go.RowKit Go.Lib Go.Sort Go.Sim
theorem Tryz.lens:∀ x,x < Tryz.lenTab.n->isVal (xcall (prg Tryz.prog) (xsOf (prg Tryz.prog)) (fun _ _ _=>none) 1000000 100 (.fn (.func 116) #[]) [.int .u64 (x:Int)] .empty) (Tryz.lenTab.g x)=true:=by decide +kernel
theorem Tryz.pops:∀ x,x < Tryz.popTab.n->isVal (xcall (prg Tryz.prog) (xsOf (prg Tryz.prog)) (fun _ _ _=>none) 1000000 100 (.fn (.func 98) #[]) [.int .i64 (x:Int)] .empty) (Tryz.popTab.g x)=true:=by decide +kernel
theorem Tryz.lenOk:TabOk Tryz.prog Tryz.lenTab:={
 enters:=fun args w=>Tryz.call116 args w
 flatVal:=fun _ _=>rfl
 calls:=fun x hx W=>tab_calls (F:=1000000) (n:=99) Tryz.fits Tryz.mixed Tryz.told0 (fun _=>rfl) (fun _ _=>rfl) Tryz.lens x hx W }
theorem Tryz.popOk:TabOk Tryz.prog Tryz.popTab:={
 enters:=fun args w=>Tryz.call98 args w
 flatVal:=fun _ _=>rfl
 calls:=fun x hx W=>tab_calls (F:=1000000) (n:=99) Tryz.fits Tryz.mixed Tryz.told0 (fun _=>rfl) (fun _ _=>rfl) Tryz.pops x hx W }
theorem Tryz.toldT0c (N:Nat):ToldOk Tryz.prog N Tryz.T0c:=toldTab_ok Tryz.lenOk (fun N=>toldTab_ok Tryz.popOk Tryz.toldT0 N) N
def cfV (x y:Fin 64):Int:=cmpN x.val y.val
theorem ltV (x y:Fin 64):ltOf cfV x y=decide (popN x.val < popN y.val \/ (popN x.val=popN y.val/\x.val < y.val)):=by
 unfold ltOf cfV cmpN
 rw[decide_eq_decide]
 repeat' split
 all_goals omega
theorem swoV:SWO (ltOf cfV) where
 irrefl x:=by rw[ltV];simp
 trans x y z h1 h2:=by rw[ltV]at *;simp only[decide_eq_true_eq]at *;omega
 ntrans x y z h1 h2:=by rw[ltV]at *;simp only[decide_eq_false_iff_not]at *;omega
theorem totV (x y:Fin 64) (h1:ltOf cfV x y=false) (h2:ltOf cfV y x=false):x=y:=by
 rw[ltV]at *
 simp only[decide_eq_false_iff_not]at *
 exact Fin.ext (by omega)
theorem fresh_empty:Fresh AW.empty:=⟨fun b _=>by simp[AW.empty,AW.blk,Trie.get_leaf],fun r _=>by simp[AW.empty,AW.family,Trie.get_leaf]⟩
theorem closureV (x y:Fin 64) (W:World):Calls Tryz.prog 95 #[encF 63 x,encF 63 y] W fun e w'=>e=.returned (.int .i64 (cfV x y))/\∃ q os,w'=grow (W.drewN q) os:=by
 have h:=calls_flat Tryz.fits Tryz.mixed Tryz.toldT0c (f:=95) (l:=[encF 63 x,encF 63 y]) (v:=.int .i64 (cfV x y)) rfl rfl rfl (cmpSets_ok x.val y.val x.isLt y.isLt .empty fresh_empty) W
 exact h.mono fun e w' ⟨he,hb⟩=>⟨he,grown_of hb⟩
theorem cmpLaysV (blk off size:Nat) (w:World):CmpLays1 Tryz.prog 95 #[] (encF 63) cfV blk off size w:=fun _ _ _ _ x y=>closureV x y _
theorem Tryz.cmpOk:CmpOk2 Tryz.prog Tryz.cmpIds:={
 enters:=fun args W=>Tryz.call94 args W
 tiny:=fun p c W=>by
  have h:=AnyF.slices_SortFunc_none (P:=Tryz.prog) (ρ:=Tryz.sortL_ren) { Tryz.sortL with } p c (.func (.func 95) #[] #[]) W
  exact h
 sorts:=fun blk off c d W h1 h2 hH hblk=>by
  have hS:=Any.slices_SortFunc_total Tryz.sortL (encF 63) (fun _=>rfl) cfV swoV 95 #[] blk off c d W (fun args W=>Tryz.call95 args W) (cmpLaysV blk off d.size W) hH hblk (Nat.lt_of_le_of_lt h2 (by decide)) totV
  refine hS.mono ?_
  rintro e w' ⟨he,n,os,hw⟩
  refine⟨he,n,os,?_⟩
  rw[hw]
  unfold sortWorld
  rfl }
theorem Tryz.toldT1 (N:Nat):ToldOk Tryz.prog N Tryz.T1:=toldSets_ok Tryz.cmpOk Tryz.toldT0c N
end Go.Proofs

namespace Go.Proofs
open Go Go.RowKit Go.Sim Go.ChangeShapes Go.WideShapes Go.ChangeAt
set_option maxRecDepth 100000
theorem Tryz.own:ownKnob Tryz.prog.godebug=none:=by kernel_rfl
theorem Tryz.laidOut:laidOutB Tryz.prog=true:=by kernel_rfl
theorem Tryz.und4:Tryz.prog.underlying 4=some .bool:=by kernel_rfl
end Go.Proofs
