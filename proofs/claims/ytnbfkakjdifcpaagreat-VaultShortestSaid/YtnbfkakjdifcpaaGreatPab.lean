/- This program: its code, contracts, numbers, part 2. -/
import Derived.Test.YtnbfkakjdifcpaaGreatPaa
import Derived.Test.YtnbfkakjdifcpaaGreatNc
import Derived.Test.YtnbfkakjdifcpaaGreatNd
import Derived.Test.YtnbfkakjdifcpaaGreatNa
set_option linter.unusedVariables false
set_option linter.unusedSimpArgs false
namespace Go.Proofs
open Go Go.RowKit Go.Sim
set_option maxRecDepth 100000
theorem lenN_le {x:Nat} (h:x < 64):lenN x≤6:=by
 unfold lenN
 split
 . omega
 . have:=(Nat.log2_lt (n:=x) (k:=6) (by omega)).2 (by omega)
   omega
def bitsL (x:Nat):List Nat:=(List.range (lenN x)).filter fun k=>x.testBit k
structure YieldsN (lp:Nat) (G:Nat->Prop) (JS:Nat->Prop) (J:List Nat->AW->Prop):Prop where
 yield:∀ Q k w,J Q w->G k->Fresh w->CallT Tryz.prog Tryz.T1 (.fn (.yield lp) #[]) #[.int .i64 (k:Int)] w (fun v w'=>v=.bool true/\J (Q++[k]) w'/\MutS JS w w')
set_option maxHeartbeats 8000000 in
theorem people_ok {x:Nat} (hx:x < 64) {bx lp:Nat} {G:Nat->Prop} {JS:Nat->Prop} {J:List Nat->AW->Prop} (hG:∀ k,x.testBit k=true->G k) (hJ:YieldsN lp G JS J) (w:AW) (f:Fresh w) (hb:Own w bx 77 [.int .i64 (x:Int)]) (hn:¬ JS bx) (h0:J [] w) :
    CallT Tryz.prog Tryz.T1 (.fn (.func 161) #[.pointer (some ⟨bx,0,none⟩)]) #[.func (.yield lp) #[] #[]] w (fun _ w'=>J (bitsL x) w'/\MutS JS w w'):=by
 have c0:=hb.cell (o:=0) rfl rfl
 have hl6:=lenN_le hx
 refine callT_code rfl Tryz.func161 rfl Tryz.s161_eq rfl ?_
 delta Tryz.s161 zo zg zv zk
 simp -dsimp -implicitDefEqProofs (maxSteps:=2000000) (disch:=first|assumption|omega|simp only[nx];omega|(repeat apply zfp);assumption|simp only[smA];done|simp[oneCell,znp]) only[go_sem,c0]
 apply callV_of (e:=rfl)
 . exact len_ok x hx w
 rintro _ _ ⟨rfl,rfl⟩
 simp -dsimp -implicitDefEqProofs (maxSteps:=2000000) (disch:=first|assumption|omega|simp only[nx];omega|(repeat apply zfp);assumption|simp only[smA];done|simp[oneCell,znp]) only[go_sem]
 refine loopR (fun k t ds w1=>∃ i:Nat,i≤lenN x/\k=lenN x - i/\ds=[]/\ev t (.tmp 0)=.func (.yield lp) #[] #[]/\ev t (.tmp 1)=.pointer (some ⟨bx,0,none⟩)/\ev t (.tmp 6)=.int .i64 (lenN x:Int)/\ev t (.tmp 7)=.int .i64 (i:Int)/\J ((List.range i).filter fun k=>x.testBit k) w1/\MutS JS w w1) (lenN x) ?_ ?_
 . refine⟨0,by omega,by omega,rfl,?_,?_,?_,?_,h0,MutS.refl f⟩ <;> simp -dsimp -implicitDefEqProofs (maxSteps:=2000000) (disch:=first|assumption|omega|simp only[nx];omega|(repeat apply zfp);assumption|simp only[smA];done|simp[oneCell,znp]) only[go_sem] <;> rfl
 rintro k t ds w1 ⟨i,hii,rfl,rfl,e0,e1,e6,e7,hJ1,m1⟩
 have d0:=(m1.own hb hn).cell (o:=0) rfl rfl
 have f1:=m1.fresh
 have hsucc:(List.range (i+1)).filter (fun k=>x.testBit k)=(List.range i).filter (fun k=>x.testBit k)++(if x.testBit i=true then [i] else []):=by
  rw[List.range_succ,List.filter_append]
  cases hq:x.testBit i <;> simp[hq]
 by_cases hlt:(i:Int) < (lenN x:Int)
 case neg =>
  obtain rfl:i=lenN x:=by omega
  simp -dsimp -implicitDefEqProofs (maxSteps:=2000000) (disch:=first|assumption|omega|simp only[nx];omega|(repeat apply zfp);assumption|simp only[smA];done|simp[oneCell,znp]) only[go_sem,e0,e1,e6,e7,hlt]
  exact⟨hJ1,m1⟩
 simp -dsimp -implicitDefEqProofs (maxSteps:=2000000) (disch:=first|assumption|omega|simp only[nx];omega|(repeat apply zfp);assumption|simp only[smA];done|simp[oneCell,znp]) only[go_sem,e0,e1,e6,e7,hlt,d0]
 apply callV_of (e:=rfl)
 . exact hasP_ok x i (by omega) (by omega) w1
 rintro _ _ ⟨rfl,rfl⟩
 cases hk:x.testBit i with
 | false =>
  rw[if_neg (by rw[hk];intro z;cases z),List.append_nil]at hsucc
  simp -dsimp -implicitDefEqProofs (maxSteps:=2000000) (disch:=first|assumption|omega|simp only[nx];omega|(repeat apply zfp);assumption|simp only[smA];done|simp[oneCell,znp]) only[go_sem,e0,e1,e6,e7,hk]
  refine⟨_,by omega,i+1,by omega,rfl,rfl,by(simp only[go_sem,e0];try rfl),by(simp only[go_sem,e1];try rfl),by(simp only[go_sem,e6];try rfl),by(simp only[go_sem,e7];try rfl),(by rw[hsucc];exact hJ1),m1⟩
 | true =>
  rw[if_pos hk]at hsucc
  simp -dsimp -implicitDefEqProofs (maxSteps:=2000000) (disch:=first|assumption|omega|simp only[nx];omega|(repeat apply zfp);assumption|simp only[smA];done|simp[oneCell,znp]) only[go_sem,e0,e1,e6,e7,hk]
  apply callV_of (e:=rfl)
  . exact hJ.yield _ i w1 hJ1 (hG i hk) f1
  rintro _ w2 ⟨rfl,hJ2,m2⟩
  simp -dsimp -implicitDefEqProofs (maxSteps:=2000000) (disch:=first|assumption|omega|simp only[nx];omega|(repeat apply zfp);assumption|simp only[smA];done|simp[oneCell,znp]) only[go_sem,e0,e1,e6,e7,hk]
  refine⟨_,by omega,i+1,by omega,rfl,rfl,by(simp only[go_sem,e0];try rfl),by(simp only[go_sem,e1];try rfl),by(simp only[go_sem,e6];try rfl),by(simp only[go_sem,e7];try rfl),(by rw[hsucc];exact hJ2),m1.trans m2 (fun j q=>.inl q)⟩
set_option maxHeartbeats 8000000 in
theorem rooms_ok {x:Nat} (hx:x < 64) {bx lp:Nat} {G:Nat->Prop} {JS:Nat->Prop} {J:List Nat->AW->Prop} (hG:∀ k,x.testBit k=true->G k) (hJ:YieldsN lp G JS J) (w:AW) (f:Fresh w) (hb:Own w bx 78 [.int .i64 (x:Int)]) (hn:¬ JS bx) (h0:J [] w) :
    CallT Tryz.prog Tryz.T1 (.fn (.func 163) #[.pointer (some ⟨bx,0,none⟩)]) #[.func (.yield lp) #[] #[]] w (fun _ w'=>J (bitsL x) w'/\MutS JS w w'):=by
 have c0:=hb.cell (o:=0) rfl rfl
 have hl6:=lenN_le hx
 refine callT_code rfl Tryz.func163 rfl Tryz.s163_eq rfl ?_
 delta Tryz.s163 zo zg zv zk
 simp -dsimp -implicitDefEqProofs (maxSteps:=2000000) (disch:=first|assumption|omega|simp only[nx];omega|(repeat apply zfp);assumption|simp only[smA];done|simp[oneCell,znp]) only[go_sem,c0]
 apply callV_of (e:=rfl)
 . exact len_ok x hx w
 rintro _ _ ⟨rfl,rfl⟩
 simp -dsimp -implicitDefEqProofs (maxSteps:=2000000) (disch:=first|assumption|omega|simp only[nx];omega|(repeat apply zfp);assumption|simp only[smA];done|simp[oneCell,znp]) only[go_sem]
 refine loopR (fun k t ds w1=>∃ i:Nat,i≤lenN x/\k=lenN x - i/\ds=[]/\ev t (.tmp 0)=.func (.yield lp) #[] #[]/\ev t (.tmp 1)=.pointer (some ⟨bx,0,none⟩)/\ev t (.tmp 6)=.int .i64 (lenN x:Int)/\ev t (.tmp 7)=.int .i64 (i:Int)/\J ((List.range i).filter fun k=>x.testBit k) w1/\MutS JS w w1) (lenN x) ?_ ?_
 . refine⟨0,by omega,by omega,rfl,?_,?_,?_,?_,h0,MutS.refl f⟩ <;> simp -dsimp -implicitDefEqProofs (maxSteps:=2000000) (disch:=first|assumption|omega|simp only[nx];omega|(repeat apply zfp);assumption|simp only[smA];done|simp[oneCell,znp]) only[go_sem] <;> rfl
 rintro k t ds w1 ⟨i,hii,rfl,rfl,e0,e1,e6,e7,hJ1,m1⟩
 have d0:=(m1.own hb hn).cell (o:=0) rfl rfl
 have f1:=m1.fresh
 have hsucc:(List.range (i+1)).filter (fun k=>x.testBit k)=(List.range i).filter (fun k=>x.testBit k)++(if x.testBit i=true then [i] else []):=by
  rw[List.range_succ,List.filter_append]
  cases hq:x.testBit i <;> simp[hq]
 by_cases hlt:(i:Int) < (lenN x:Int)
 case neg =>
  obtain rfl:i=lenN x:=by omega
  simp -dsimp -implicitDefEqProofs (maxSteps:=2000000) (disch:=first|assumption|omega|simp only[nx];omega|(repeat apply zfp);assumption|simp only[smA];done|simp[oneCell,znp]) only[go_sem,e0,e1,e6,e7,hlt]
  exact⟨hJ1,m1⟩
 simp -dsimp -implicitDefEqProofs (maxSteps:=2000000) (disch:=first|assumption|omega|simp only[nx];omega|(repeat apply zfp);assumption|simp only[smA];done|simp[oneCell,znp]) only[go_sem,e0,e1,e6,e7,hlt,d0]
 apply callV_of (e:=rfl)
 . exact has_ok x i (by omega) (by omega) w1
 rintro _ _ ⟨rfl,rfl⟩
 cases hk:x.testBit i with
 | false =>
  rw[if_neg (by rw[hk];intro z;cases z),List.append_nil]at hsucc
  simp -dsimp -implicitDefEqProofs (maxSteps:=2000000) (disch:=first|assumption|omega|simp only[nx];omega|(repeat apply zfp);assumption|simp only[smA];done|simp[oneCell,znp]) only[go_sem,e0,e1,e6,e7,hk]
  refine⟨_,by omega,i+1,by omega,rfl,rfl,by(simp only[go_sem,e0];try rfl),by(simp only[go_sem,e1];try rfl),by(simp only[go_sem,e6];try rfl),by(simp only[go_sem,e7];try rfl),(by rw[hsucc];exact hJ1),m1⟩
 | true =>
  rw[if_pos hk]at hsucc
  simp -dsimp -implicitDefEqProofs (maxSteps:=2000000) (disch:=first|assumption|omega|simp only[nx];omega|(repeat apply zfp);assumption|simp only[smA];done|simp[oneCell,znp]) only[go_sem,e0,e1,e6,e7,hk]
  apply callV_of (e:=rfl)
  . exact hJ.yield _ i w1 hJ1 (hG i hk) f1
  rintro _ w2 ⟨rfl,hJ2,m2⟩
  simp -dsimp -implicitDefEqProofs (maxSteps:=2000000) (disch:=first|assumption|omega|simp only[nx];omega|(repeat apply zfp);assumption|simp only[smA];done|simp[oneCell,znp]) only[go_sem,e0,e1,e6,e7,hk]
  refine⟨_,by omega,i+1,by omega,rfl,rfl,by(simp only[go_sem,e0];try rfl),by(simp only[go_sem,e1];try rfl),by(simp only[go_sem,e6];try rfl),by(simp only[go_sem,e7];try rfl),(by rw[hsucc];exact hJ2),m1.trans m2 (fun j q=>.inl q)⟩
end Go.Proofs

namespace Go.Sim
open Go
def rfOf:Code->Option (Code × Code)
 | .rangeFunc _ _ a b=>some (a,b)
 | .seq a b=>match rfOf a with
  | some x=>some x
  | none=>rfOf b
 | .cond _ a b=>match rfOf a with
  | some x=>some x
  | none=>rfOf b
 | .block _ b=>rfOf b
 | .loop b=>rfOf b
 | .scope b=>rfOf b
 | _=>none
def codeA (f:Func):Code :=
 match f.body with
 | some c=>match rfOf c with
  | some (a,_)=>a
  | none=>.skip
 | none=>.skip
def codeB (f:Func):Code :=
 match f.body with
 | some c=>match rfOf c with
  | some (_,b)=>b
  | none=>.skip
 | none=>.skip
end Go.Sim

namespace Go.Proofs
open Go Go.RowKit Go.Sim
set_option maxRecDepth 100000
def rfsOf:Code->List (Code × Code)
 | .rangeFunc _ _ a b=>[(a,b)]
 | .seq a b=>rfsOf a++rfsOf b
 | .cond _ a b=>rfsOf a++rfsOf b
 | .block _ b=>rfsOf b
 | .loop b=>rfsOf b
 | .scope b=>rfsOf b
 | _=>[]
def codeA2 (f:Func):Code :=
 match f.body with
 | some c=>match rfsOf c with
  | _ :: (a,_) :: _=>a
  | _=>.skip
 | none=>.skip
def codeB2 (f:Func):Code :=
 match f.body with
 | some c=>match rfsOf c with
  | _ :: (_,b) :: _=>b
  | _=>.skip
 | none=>.skip
noncomputable def Tryz.s129:SC :=
 (.seq
  (.ops false [
    ⟨⟨(some 1),.box 80 (.tmp 0), 0, "",⟨[]⟩,none⟩,none,false⟩,
    ⟨⟨(some 2),.assign (.const (.int .i64 0)),155, "",⟨[]⟩,none⟩,none,false⟩])
  (.seq
   (.ops false [
     ⟨⟨(some 3),.alloc 155, 0, "",⟨[]⟩,none⟩,none,false⟩])
   (.seq
    (.seq
     (.ops false [
       ⟨⟨(some 6),.fieldAddr 80 (.tmp 1) 1, 0, "",⟨[]⟩,none⟩,none,false⟩,
       ⟨⟨(some 7),.load 77 (.tmp 6),77, "",⟨[]⟩,none⟩,none,false⟩,
       ⟨⟨(some 8),.call ⟨.value (.func 152),⟨[(.tmp 7)]⟩,⟨[77]⟩⟩,179, "",⟨[]⟩,none⟩,none,false⟩])
     (.block 0
      (.raw (.rangeFunc (.tmp 8) ⟨[9]⟩ (codeA Tryz.f129) (codeB Tryz.f129)))))
    (.seq
     (.seq
      (.ops false [
        ⟨⟨(some 18),.fieldAddr 80 (.tmp 1) 2, 0, "",⟨[]⟩,none⟩,none,false⟩,
        ⟨⟨(some 19),.load 78 (.tmp 18),78, "",⟨[]⟩,none⟩,none,false⟩,
        ⟨⟨(some 20),.call ⟨.value (.func 153),⟨[(.tmp 19)]⟩,⟨[78]⟩⟩,179, "",⟨[]⟩,none⟩,none,false⟩])
      (.block 2
       (.raw (.rangeFunc (.tmp 20) ⟨[21]⟩ (codeA2 Tryz.f129) (codeB2 Tryz.f129)))))
     (.seq
      (.ops false [
        ⟨⟨(some 31),.load 155 (.tmp 3),155, "",⟨[]⟩,none⟩,none,false⟩,
        ⟨⟨(some 2),.assign (.tmp 31),155, "",⟨[]⟩,none⟩,none,false⟩])
      .ret)))))
def Tryz.ra129:SC:=(.ops false [zo 4 (.assign (zv 9)) 3])
def Tryz.rb129:SC:=(.block 1 (.ops true [zt 10 (.load 155 (zv 3)) 155,zt 11 (.fieldAddr 80 (zv 1) 0) 0,zt 12 (.fieldAddr 26 (zv 11) 2) 0,zt 13 (.load 24 (zv 12)) 24,zt 14 (.move (zv 4)) 3,zt 15 (.indexAddr 24 (zv 13) (zv 14)) 0,zt 16 (.load 3 (zv 15)) 3,zt 17 (.binOp .or 155 (zv 10) (zv 16) 155) 155,zon (.store 155 (zv 3) (zv 17)) 0]))
def Tryz.ra129b:SC:=(.ops false [zo 5 (.assign (zv 21)) 3])
def Tryz.rb129b:SC:=(.block 3 (.ops true [zt 22 (.load 155 (zv 3)) 155,zt 23 (.fieldAddr 80 (zv 1) 0) 0,zt 24 (.fieldAddr 26 (zv 23) 0) 0,zt 25 (.load 22 (zv 24)) 22,zt 26 (.move (zv 5)) 3,zt 27 (.indexAddr 22 (zv 25) (zv 26)) 0,zt 28 (.fieldAddr 73 (zv 27) 2) 0,zt 29 (.load 3 (zv 28)) 3,zt 30 (.binOp .or 155 (zv 22) (zv 29) 155) 155,zon (.store 155 (zv 3) (zv 30)) 0]))
theorem Tryz.ra129_eq:sOf (codeA Tryz.f129)=Tryz.ra129:=by kernel_rfl
theorem Tryz.rb129_eq:sOf (codeB Tryz.f129)=Tryz.rb129:=by kernel_rfl
theorem Tryz.ra129b_eq:sOf (codeA2 Tryz.f129)=Tryz.ra129b:=by kernel_rfl
theorem Tryz.rb129b_eq:sOf (codeB2 Tryz.f129)=Tryz.rb129b:=by kernel_rfl
theorem Tryz.s129_eq:Tryz.f129.body.map sOf=some Tryz.s129:=by kernel_rfl
def orL (f:Nat->Nat) (h0:Nat) (Q:List Nat):Nat:=Q.foldl (fun h k=>h ||| f k) h0
theorem orL_snoc (f:Nat->Nat) (h0:Nat) (Q:List Nat) (k:Nat):orL f h0 (Q++[k])=orL f h0 Q ||| f k:=by unfold orL;rw[List.foldl_append];rfl
theorem orL_lt {f:Nat->Nat} (hf:∀ k,f k < 256):∀ {Q:List Nat} {h0:Nat},h0 < 256->orL f h0 Q < 256
 | [],_,h=>h
 | k :: Q,h0,h=>orL_lt hf (Q:=Q) (Nat.or_lt_two_pow (n:=8) h (hf k))
noncomputable abbrev lpH1 (s:LoopState) (t:Tmps) (dm:Nat):ALoop:=⟨s,none,129,t,#[9],codeA Tryz.f129,codeB Tryz.f129,dm⟩
noncomputable abbrev lpH2 (s:LoopState) (t:Tmps) (dm:Nat):ALoop:=⟨s,none,129,t,#[21],codeA2 Tryz.f129,codeB2 Tryz.f129,dm⟩
structure JH (W0:AW) (T:List Value) (b1 b3 dm lp:Nat) (lv:ALoop) (h:Nat) (w:AW):Prop where
 o1:Own w b1 80 T
 o3:Own w b3 155 [.int .i64 (h:Int)]
 loop:w.blk lp=some (.loop lv)
 mark:w.blk dm=some (.deferred (some []))
 keep:Keep W0.next W0 w
 fresh:Fresh w
 lt:lp < w.next
 bnd:W0.next≤b1/\b1 < b3/\b3 < dm/\dm < lp
theorem JH.relp {W0 w:AW} {T:List Value} {b1 b3 dm lp:Nat} {lv:ALoop} {h:Nat} (j:JH W0 T b1 b3 dm lp lv h w) (lv2:ALoop):JH W0 T b1 b3 dm lp lv2 h (w.put lp (.loop lv2)):=by
 have hb:=j.bnd
 have m:=MutS.put (S:=fun j=>j=lp) j.fresh rfl j.lt (.loop lv2)
 exact ⟨m.own j.o1 (by omega),m.own j.o3 (by omega),by rw[AW.blk_put _ _ _ _ (Trie.in_ _) (Trie.in_ _),if_pos rfl],by rw[m.blk _ (by have:=j.lt;omega) (by omega)];exact j.mark,
  j.keep.trans (m.keep (fun x q=>by have:=j.keep.next;omega) j.keep.next),m.fresh,by rw[AW.next_put];exact j.lt,j.bnd⟩
theorem JH.set {W0 w:AW} {T:List Value} {b1 b3 dm lp:Nat} {lv:ALoop} {h:Nat} (j:JH W0 T b1 b3 dm lp lv h w) (h':Nat) :
    ∃ w',storeV w false 1 (.pointer (some ⟨b3,0,none⟩)) (.int .i64 (h':Int))=some w'/\JH W0 T b1 b3 dm lp lv h' w'/\MutS (fun x=>x=b3) w w':=by
 have hb:=j.bnd
 have st:=storeV_own1 (o:=0) (v:=.int .i64 (h':Int)) j.o3 (by simp) rfl
 simp only[setL]at st
 have m:=MutS.put (S:=fun x=>x=b3) j.fresh rfl j.o3.lt (.cells [.int .i64 (h':Int)] 155 b3 0 0)
 have O:=j.o3.put [.int .i64 (h':Int)]
 have hl:=j.lt
 exact⟨_,st,⟨m.own j.o1 (by omega),O,by rw[m.blk _ hl (by omega)];exact j.loop,by rw[m.blk _ (by omega) (by omega)];exact j.mark,j.keep.trans (m.keep (fun x q=>by omega) j.keep.next),m.fresh,by rw[AW.next_put];exact hl,hb⟩,m⟩
def staffF (s:StrN) (k:Nat):Nat:=(W s.staff k).toNat % 256
def roomF (s:StrN) (k:Nat):Nat:=((s.rooms.map RoomN.keys)[k]?.getD 0).toNat % 256
theorem same_s12V (p:Option Addr) (n c:Nat):same 12 (.slice p n c) (.slice p n c)=true:=by
 cases p with
 | none=>simp[same]
 | some a=>obtain⟨b,o,q⟩:=a;cases q <;> simp[same]
theorem staffF_lt (s:StrN) (k:Nat):staffF s k < 256:=Nat.mod_lt _ (by omega)
theorem roomF_lt (s:StrN) (k:Nat):roomF s k < 256:=Nat.mod_lt _ (by omega)
theorem setB_iff (x:Int):setB 8 x=true↔0≤x/\x≤255:=by
 unfold setB;rw[inR_iff]
 have:fullI 8=255:=by decide
 rw[this]
theorem staff_val {s:StrN} (hs:strB s=true) {k:Nat} (hk:k < s.staff.length):W s.staff k=(staffF s k:Int):=by
 unfold strB staffB at hs
 rw[Bool.and_eq_true,Bool.and_eq_true,Bool.and_eq_true]at hs
 have:=(setB_iff _).1 (List.all_eq_true.1 hs.2.2.2 _ (List.getElem_mem hk))
 unfold staffF
 rw[W_at hk];omega
theorem room_val {s:StrN} (hs:strB s=true) {k:Nat} (hk:k < s.rooms.length):s.rooms[k].keys=(roomF s k:Int):=by
 unfold strB roomsB at hs
 rw[Bool.and_eq_true,Bool.and_eq_true]at hs
 have h1:=List.all_eq_true.1 hs.1.2 _ (List.getElem_mem hk)
 unfold roomB at h1
 rw[Bool.and_eq_true,Bool.and_eq_true]at h1
 have:=(setB_iff _).1 h1.2.2
 unfold roomF
 simp[List.getElem?_eq_getElem hk];omega
set_option maxHeartbeats 16000000 in
theorem yieldP_ok {W0:AW} {s:StrN} (hs:strB s=true) {pR pG pS:Option Addr} {cR cG cS:Nat} (hA:StrAt W0 pR pG pS cR cG cS s) {g r:Nat} {b1 b3 dm lp:Nat} (t:Tmps)
    (e1:ev t (.tmp 1)=.pointer (some ⟨b1,0,none⟩)) (e3:ev t (.tmp 3)=.pointer (some ⟨b3,0,none⟩)) (h0:Nat) (hh:h0 < 256) :
    YieldsN lp (fun k=>k < s.staff.length) (fun j=>j=b3 \/ j=lp) (fun Q w=>JH W0 (tourC pR pG pS cR cG cS s g r) b1 b3 dm lp (lpH1 .ready t dm) (orL (staffF s) h0 Q) w):=by
 refine⟨fun Q k w hJ hk f=>?_⟩
 have hlt:=hJ.lt
 have hbd:=hJ.bnd
 refine callT_yield (lp:=lpH1 .ready t dm) hJ.loop rfl ?_
 show CodeT Tryz.prog Tryz.T1 { fn:=129,round:=some lp } (codeA Tryz.f129) (putTmp t (some 9) _) [] w _
 refine codeR_codeT (x:=.mk) _ ?_
 rw[Tryz.ra129_eq]
 delta Tryz.ra129 zo zv
 simp -dsimp -implicitDefEqProofs (maxSteps:=2000000) (disch:=first|assumption|omega|simp only[nx];omega|(repeat apply zfp);assumption|simp only[smA];done|simp[oneCell,znp]) only[go_sem]
 refine⟨trivial,_,hJ.loop,rfl,?_⟩
 refine codeR_codeT (x:=.mk) _ ?_
 rw[Tryz.rb129_eq]
 delta Tryz.rb129 zt zon zv
 have h2:=hJ.relp (lpH1 .busy t dm)
 have m12:=MutS.put (S:=fun j=>j=lp) hJ.fresh rfl hlt (.loop (lpH1 .busy t dm))
 generalize w.put lp (.loop (lpH1 .busy t dm))=w2 at *
 have d3:=h2.o3.cell (o:=0) rfl rfl
 have d2:=h2.o1.cell (o:=2) (v:=.slice pS s.staff.length cS) rfl rfl
 obtain⟨_,_,ex,_,_,hat⟩:=(hA.staff.kept h2.keep).open
 injection ex with ex1 ex2 ex3
 subst ex1 ex3
 obtain⟨b4,o4,rfl,_,hcell⟩:=hat k hk
 have a0:=hcell w2 (.refl _ _) 0 _ rfl
 rw[Nat.add_zero,<- W_at hk,staff_val hs hk]at a0
 have hkI:(k:Int) < (s.staff.length:Int):=by omega
 have hH:=orL_lt (staffF_lt s) (Q:=Q) hh
 have hor:=or_nat (a:=orL (staffF s) h0 Q) (b:=staffF s k) (by omega) (by have:=staffF_lt s k;omega)
 rw[<- orL_snoc]at hor
 obtain⟨w3,st,h3,m3⟩:=h2.set (orL (staffF s) h0 (Q++[k]))
 have hsp:=same_s12V (some ⟨b4,o4,none⟩) s.staff.length cS
 simp -dsimp -implicitDefEqProofs (maxSteps:=2000000) (disch:=first|assumption|omega|simp only[nx];omega|(repeat apply zfp);assumption|simp only[smA];done|simp[oneCell,znp]) only[go_sem,e1,e3,d3,d2,indexV_eq,hkI,a0,hor,st,Nat.zero_add]
 exact⟨trivial,trivial,_,h3.loop,trivial,h3.relp _,((m12.mono fun j q=>.inr q).trans (m3.mono fun j q=>.inl q) (fun j q=>.inl q)).trans ((MutS.put (S:=fun j=>j=lp) h3.fresh rfl h3.lt _).mono fun j q=>.inr q) (fun j q=>.inl q)⟩
set_option maxHeartbeats 16000000 in
theorem yieldR_ok {W0:AW} {s:StrN} (hs:strB s=true) {pR pG pS:Option Addr} {cR cG cS:Nat} (hA:StrAt W0 pR pG pS cR cG cS s) {g r:Nat} {b1 b3 dm lp:Nat} (t:Tmps)
    (e1:ev t (.tmp 1)=.pointer (some ⟨b1,0,none⟩)) (e3:ev t (.tmp 3)=.pointer (some ⟨b3,0,none⟩)) (h0:Nat) (hh:h0 < 256) :
    YieldsN lp (fun k=>k < s.rooms.length) (fun j=>j=b3 \/ j=lp) (fun Q w=>JH W0 (tourC pR pG pS cR cG cS s g r) b1 b3 dm lp (lpH2 .ready t dm) (orL (roomF s) h0 Q) w):=by
 refine⟨fun Q k w hJ hk f=>?_⟩
 have hlt:=hJ.lt
 have hbd:=hJ.bnd
 refine callT_yield (lp:=lpH2 .ready t dm) hJ.loop rfl ?_
 show CodeT Tryz.prog Tryz.T1 { fn:=129,round:=some lp } (codeA2 Tryz.f129) (putTmp t (some 21) _) [] w _
 refine codeR_codeT (x:=.mk) _ ?_
 rw[Tryz.ra129b_eq]
 delta Tryz.ra129b zo zv
 simp -dsimp -implicitDefEqProofs (maxSteps:=2000000) (disch:=first|assumption|omega|simp only[nx];omega|(repeat apply zfp);assumption|simp only[smA];done|simp[oneCell,znp]) only[go_sem]
 refine⟨trivial,_,hJ.loop,rfl,?_⟩
 refine codeR_codeT (x:=.mk) _ ?_
 rw[Tryz.rb129b_eq]
 delta Tryz.rb129b zt zon zv
 have h2:=hJ.relp (lpH2 .busy t dm)
 have m12:=MutS.put (S:=fun j=>j=lp) hJ.fresh rfl hlt (.loop (lpH2 .busy t dm))
 generalize w.put lp (.loop (lpH2 .busy t dm))=w2 at *
 have d3:=h2.o3.cell (o:=0) rfl rfl
 have d2:=h2.o1.cell (o:=0) (v:=.slice pR s.rooms.length cR) rfl rfl
 obtain⟨_,_,ex,_,_,hat⟩:=(hA.rooms.kept h2.keep).open
 injection ex with ex1 ex2 ex3
 subst ex1 ex3
 obtain⟨b4,o4,rfl,_,hcell⟩:=hat k hk
 have a0:=hcell w2 (.refl _ _) 2 _ rfl
 rw[room_val hs hk]at a0
 have hkI:(k:Int) < (s.rooms.length:Int):=by omega
 have hH:=orL_lt (roomF_lt s) (Q:=Q) hh
 have hor:=or_nat (a:=orL (roomF s) h0 Q) (b:=roomF s k) (by omega) (by have:=roomF_lt s k;omega)
 rw[<- orL_snoc]at hor
 obtain⟨w3,st,h3,m3⟩:=h2.set (orL (roomF s) h0 (Q++[k]))
 have hsp:=same_s12V (some ⟨b4,o4,none⟩) s.rooms.length cR
 simp -dsimp -implicitDefEqProofs (maxSteps:=2000000) (disch:=first|assumption|omega|simp only[nx];omega|(repeat apply zfp);assumption|simp only[smA];done|simp[oneCell,znp]) only[go_sem,e1,e3,d3,d2,indexV_eq,hkI,a0,hor,st,Nat.zero_add]
 exact⟨trivial,trivial,_,h3.loop,trivial,h3.relp _,((m12.mono fun j q=>.inr q).trans (m3.mono fun j q=>.inl q) (fun j q=>.inl q)).trans ((MutS.put (S:=fun j=>j=lp) h3.fresh rfl h3.lt _).mono fun j q=>.inr q) (fun j q=>.inl q)⟩
theorem people_mk (x:Int) (w:AW) (f:Fresh w):CallT Tryz.prog Tryz.T1 (.fn (.func 152) #[]) #[.int .i64 x] w (fun v w'=>v=.func (.func 161) #[] #[.pointer (some ⟨w.next,0,none⟩)]/\Own w' w.next 77 [.int .i64 x]/\Grown w w'/\w'.next=w.next+1):=by
 have g1:=(Grown.refl f).push (.cells [.int .i64 x] 77 w.next 0 0)
 have O1:=Own.new f 77 [.int .i64 x]
 refine callT_code rfl Tryz.func152 rfl Tryz.s152_eq rfl ?_
 delta Tryz.s152 zo zv
 simp -dsimp -implicitDefEqProofs (maxSteps:=2000000) (disch:=first|assumption|omega|simp only[nx];omega|(repeat apply zfp);assumption|simp only[smA];done|simp[oneCell,znp]) only[go_sem]
 exact⟨trivial,O1,g1,trivial⟩
theorem rooms_mk (x:Int) (w:AW) (f:Fresh w):CallT Tryz.prog Tryz.T1 (.fn (.func 153) #[]) #[.int .i64 x] w (fun v w'=>v=.func (.func 163) #[] #[.pointer (some ⟨w.next,0,none⟩)]/\Own w' w.next 78 [.int .i64 x]/\Grown w w'/\w'.next=w.next+1):=by
 have g1:=(Grown.refl f).push (.cells [.int .i64 x] 78 w.next 0 0)
 have O1:=Own.new f 78 [.int .i64 x]
 refine callT_code rfl Tryz.func153 rfl Tryz.s153_eq rfl ?_
 delta Tryz.s153 zo zv
 simp -dsimp -implicitDefEqProofs (maxSteps:=2000000) (disch:=first|assumption|omega|simp only[nx];omega|(repeat apply zfp);assumption|simp only[smA];done|simp[oneCell,znp]) only[go_sem]
 exact⟨trivial,O1,g1,trivial⟩
def heldN (s:StrN) (g r:Nat):Nat:=orL (roomF s) (orL (staffF s) 0 (bitsL g)) (bitsL r)
theorem heldN_lt (s:StrN) (g r:Nat):heldN s g r < 256:=orL_lt (roomF_lt s) (orL_lt (staffF_lt s) (by omega))
theorem JH.start {W0 w:AW} {T:List Value} {b1 b3:Nat} {h:Nat} (lv:ALoop) (o1:Own w b1 80 T) (o3:Own w b3 155 [.int .i64 (h:Int)]) (k:Keep W0.next W0 w) (f:Fresh w) (hb:W0.next≤b1/\b1 < b3) :
    JH W0 T b1 b3 w.next (w.next+1) lv h ((w.push (.deferred (some []))).push (.loop lv)):=by
 have hn1:(w.push (.deferred (some []))).next=w.next+1:=AW.next_push _ _
 have hn2:((w.push (.deferred (some []))).push (.loop lv)).next=w.next+1+1:=by rw[AW.next_push,hn1]
 have gA:=((Grown.refl f).push (.deferred (some []))).push (.loop lv)
 have:=o3.lt
 refine⟨(o1.push _).push _,(o3.push _).push _,?_,?_,k.trans (gA.1.mono k.next),gA.2,by omega,⟨hb.1,hb.2,by omega,by omega⟩⟩
 . show ((w.push (.deferred (some []))).push _).blk (w.next+1)=_
   rw[AW.blk_push _ _ _ (Trie.in_ _) (Trie.in_ _),if_pos hn1.symm]
 . show ((w.push (.deferred (some []))).push _).blk w.next=_
   rw[AW.blk_push _ _ _ (Trie.in_ _) (Trie.in_ _),if_neg (by omega),AW.blk_push _ _ _ (Trie.in_ _) (Trie.in_ _),if_pos rfl]
set_option maxHeartbeats 32000000 in
theorem held_ok {s:StrN} (hs:strB s=true) {pR pG pS:Option Addr} {cR cG cS:Nat} {g r:Nat} (hg:g < 64) (hr:r < 64) (hgb:∀ k,g.testBit k=true->k < s.staff.length) (hrb:∀ k,r.testBit k=true->k < s.rooms.length) (w:AW) (f:Fresh w) (hA:StrAt w pR pG pS cR cG cS s) :
    CallT Tryz.prog Tryz.T1 (.fn (.func 129) #[]) #[.agg (tourC pR pG pS cR cG cS s g r).toArray] w (Ret (.int .i64 (heldN s g r:Int)) (Grown w)):=by
 have g1:=(Grown.refl f).push (.cells (tourC pR pG pS cR cG cS s g r) 80 w.next 0 0)
 have O1:=Own.new f 80 (tourC pR pG pS cR cG cS s g r)
 have g2:=g1.push (.cells [.int .i64 0] 155 (w.next+1) 0 0)
 have O3:=Own.new g1.2 155 [.int .i64 0]
 rw[AW.next_push]at O3
 have O1':=O1.push (.cells [.int .i64 0] 155 (w.next+1) 0 0)
 have n2:((w.push (.cells (tourC pR pG pS cR cG cS s g r) 80 w.next 0 0)).push (.cells [.int .i64 0] 155 (w.next+1) 0 0)).next=w.next+1+1:=by rw[AW.next_push,AW.next_push]
 have c3:=O1'.cell (o:=3) (v:=.int .i64 (g:Int)) rfl rfl
 refine callT_code rfl Tryz.func129 rfl Tryz.s129_eq rfl ?_
 delta Tryz.s129 zo zt zg zh zon ztn zgn zhn zv zk
 unfold tourC at *
 simp -dsimp -implicitDefEqProofs (maxSteps:=2000000) (disch:=first|assumption|omega|simp only[nx];omega|(repeat apply zfp);assumption|simp only[smA];done|simp[oneCell,znp]) only[go_sem,c3,Nat.zero_add]
 generalize (w.push (.cells [.slice pR s.rooms.length cR,.slice pG s.gates.length cG,.slice pS s.staff.length cS,.int .i64 (g:Int),.int .i64 (r:Int)] 80 w.next 0 0)).push (.cells [.int .i64 0] 155 (w.next+1) 0 0)=w2 at *
 apply callV_of (e:=rfl)
 . exact people_mk _ w2 g2.2
 rintro _ w3 ⟨rfl,OX,g3,n3⟩
 have hle3:WLe w2 w3:=g3.1.wle g2.2
 have k3:Keep w.next w w3:=g2.1.trans (g3.1.mono g2.1.next)
 simp -dsimp -implicitDefEqProofs (maxSteps:=2000000) (disch:=first|assumption|omega|simp only[nx];omega|(repeat apply zfp);assumption|simp only[smA];done|simp[oneCell,znp]) only[go_sem,hle3]
 refine codeT_range rfl (by simp -dsimp -implicitDefEqProofs (maxSteps:=2000000) (disch:=first|assumption|omega|simp only[nx];omega|(repeat apply zfp);assumption|simp only[smA];done|simp[oneCell,znp]) only[go_sem];rfl) ?_
 refine (people_ok hg hgb (yieldP_ok (g:=g) (r:=r) (b1:=w.next) (b3:=w.next+1) (dm:=w3.next) hs hA _ (by simp -dsimp -implicitDefEqProofs (maxSteps:=2000000) (disch:=first|assumption|omega|simp only[nx];omega|(repeat apply zfp);assumption|simp only[smA];done|simp[oneCell,znp]) only[go_sem]) (by simp -dsimp -implicitDefEqProofs (maxSteps:=2000000) (disch:=first|assumption|omega|simp only[nx];omega|(repeat apply zfp);assumption|simp only[smA];done|simp[oneCell,znp]) only[go_sem]) 0 (by omega)) _ (((Grown.refl g3.2).push (.deferred (some []))).push (.loop _)).2 ((OX.push _).push _) (by omega) (JH.start (h:=0) _ (O1'.keep g3.1) (O3.keep g3.1) k3 g3.2 ⟨Nat.le_refl _,by omega⟩)).mono ?_
 rintro _ w4 ⟨hJ4,m4⟩
 refine⟨_,hJ4.loop,rfl,rfl,?_⟩
 intro W2 hW2
 obtain⟨lpx,hJ2⟩:∃ lpx,JH w [.slice pR s.rooms.length cR,.slice pG s.gates.length cG,.slice pS s.staff.length cS,.int .i64 (g:Int),.int .i64 (r:Int)] w.next (w.next+1) w3.next (w3.next+1) lpx (orL (staffF s) 0 (bitsL g)) W2:=⟨_,by rw[hW2];exact hJ4.relp _⟩
 clear hW2 hJ4 m4
 have c4:=hJ2.o1.cell (o:=4) (v:=.int .i64 (r:Int)) rfl rfl
 have hb2:=hJ2.bnd
 have hlt2:=hJ2.lt
 simp -dsimp -implicitDefEqProofs (maxSteps:=2000000) (disch:=first|assumption|omega|simp only[nx];omega|(repeat apply zfp);assumption|simp only[smA];done|simp[oneCell,znp]) only[go_sem,c4,Nat.zero_add]
 apply callV_of (e:=rfl)
 . exact rooms_mk _ W2 hJ2.fresh
 rintro _ w5 ⟨rfl,OY,g5,n5⟩
 have hle5:WLe W2 w5:=g5.1.wle hJ2.fresh
 have k5:Keep w.next w w5:=hJ2.keep.trans (g5.1.mono hJ2.keep.next)
 have hmk5:w5.blk w3.next=some (.deferred (some [])):=by rw[g5.1.blk _ (by omega)];exact hJ2.mark
 simp -dsimp -implicitDefEqProofs (maxSteps:=2000000) (disch:=first|assumption|omega|simp only[nx];omega|(repeat apply zfp);assumption|simp only[smA];done|simp[oneCell,znp]) only[go_sem,hle5]
 refine codeT_range rfl (by simp -dsimp -implicitDefEqProofs (maxSteps:=2000000) (disch:=first|assumption|omega|simp only[nx];omega|(repeat apply zfp);assumption|simp only[smA];done|simp[oneCell,znp]) only[go_sem];rfl) ?_
 have gB:=fun (lv:ALoop)=>((Grown.refl g5.2).push (.deferred (some []))).push (.loop lv)
 refine (rooms_ok hr hrb (yieldR_ok (g:=g) (r:=r) (b1:=w.next) (b3:=w.next+1) (dm:=w5.next) hs hA _ (by simp -dsimp -implicitDefEqProofs (maxSteps:=2000000) (disch:=first|assumption|omega|simp only[nx];omega|(repeat apply zfp);assumption|simp only[smA];done|simp[oneCell,znp]) only[go_sem]) (by simp -dsimp -implicitDefEqProofs (maxSteps:=2000000) (disch:=first|assumption|omega|simp only[nx];omega|(repeat apply zfp);assumption|simp only[smA];done|simp[oneCell,znp]) only[go_sem]) (orL (staffF s) 0 (bitsL g)) (orL_lt (staffF_lt s) (by omega))) _ (gB _).2 ((OY.push _).push _) (by omega) (JH.start (h:=orL (staffF s) 0 (bitsL g)) _ (hJ2.o1.keep g5.1) (hJ2.o3.keep g5.1) k5 g5.2 ⟨Nat.le_refl _,by omega⟩)).mono ?_
 rintro _ w6 ⟨hJ6,m6⟩
 have hmk6:w6.blk w3.next=some (.deferred (some [])):=by
  rw[m6.blk _ (by have:=(gB (lpH2 .ready Trie.leaf 0)).1.next;simp only[AW.next_push]at *;omega) (by omega)]
  rw[(gB _).1.blk _ (by omega)];exact hmk5
 have hlt6:=hJ6.lt
 refine⟨_,hJ6.loop,rfl,rfl,?_⟩
 intro W3 hW3
 have hmk7:W3.blk w3.next=some (.deferred (some [])):=by
  rw[hW3,AW.blk_put _ _ _ _ (Trie.in_ _) (Trie.in_ _),if_neg (by omega)];exact hmk6
 obtain⟨lpy,hJ3⟩:∃ lpy,JH w [.slice pR s.rooms.length cR,.slice pG s.gates.length cG,.slice pS s.staff.length cS,.int .i64 (g:Int),.int .i64 (r:Int)] w.next (w.next+1) w5.next (w5.next+1) lpy (heldN s g r) W3:=⟨_,by rw[hW3];exact hJ6.relp _⟩
 clear hW3 hJ6 m6 hmk6 hlt6
 have c5:=hJ3.o3.cell (o:=0) (v:=.int .i64 (heldN s g r:Int)) rfl rfl
 have hlt7:=hJ3.lt
 have hb3:=hJ3.bnd
 simp -dsimp -implicitDefEqProofs (maxSteps:=2000000) (disch:=first|assumption|omega|simp only[nx];omega|(repeat apply zfp);assumption|simp only[smA];done|simp[oneCell,znp]) only[go_sem,c5,Nat.zero_add]
 refine Left_one hJ3.mark ?_
 have m7:=MutS.put (S:=fun j=>j=w5.next) hJ3.fresh rfl (by omega) (.deferred none)
 have hmk8:=m7.blk w3.next (by omega) (by omega)
 rw[hmk7]at hmk8
 refine Left_one hmk8 ?_
 have n7:(W3.put w5.next (.deferred none)).next=W3.next:=AW.next_put _ _ _
 have m8:=MutS.put (S:=fun j=>j=w3.next) m7.fresh rfl (by omega) (.deferred none)
 have kk:Keep w.next w _:=(hJ3.keep.trans (m7.keep (fun j q=>by omega) (by omega))).trans (m8.keep (fun j q=>by omega) (by omega))
 simp -dsimp -implicitDefEqProofs (maxSteps:=2000000) (disch:=first|assumption|omega|simp only[nx];omega|(repeat apply zfp);assumption|simp only[smA];done|simp[oneCell,znp]) only[go_sem]
 exact⟨rfl,kk,m8.fresh⟩
end Go.Proofs

namespace Go.Sim
open Go Go.RowKit
theorem loadAll {w:AW} {b n:Nat} {e:TypeId} {c:List Value} (h:Own w b e c) (hn:c.length=n) (h1:∀ v ∈ c,oneCell v=true):loadV w true n (.pointer (some ⟨b,0,none⟩))=some (.agg c.toArray):=by
 subst hn
 rw[loadV_row,aCells_of c 0 fun i v hv=>by rw[Nat.zero_add];exact h.cell hv (h1 v (List.mem_of_getElem? hv))]
end Go.Sim

namespace Go.Proofs
open Go Go.RowKit Go.Sim
set_option maxRecDepth 100000
def waysN (g:GateN):List Nat:=g.ways.map Int.toNat
theorem ways_val {n:Nat} {g:GateN} (h:gateB n g=true):natsL (waysN g)=g.ways/\∀ x ∈ waysN g,x < 256:=by
 unfold gateB waysB at h
 simp only[Bool.and_eq_true]at h
 have ha:=List.all_eq_true.1 h.2.2.2.2.2
 constructor
 . unfold natsL waysN
   rw[List.map_map]
   conv=>rhs;rw[<- List.map_id g.ways]
   refine List.map_congr_left fun x hx=>?_
   have:=(setB_iff _).1 (ha x hx)
   simp only[Function.comp,id];omega
 . intro x hx
   obtain⟨y,hy,rfl⟩:=List.mem_map.1 hx
   have:=(setB_iff _).1 (ha y hy);omega
def openB (s:StrN) (g r:Nat) (gt:GateN):Bool:=decide ((popN g:Int) ≥ gt.need) && (waysN gt).any (subB (heldN s g r))
set_option maxHeartbeats 16000000 in
theorem canOpen_ok {s:StrN} (hs:strB s=true) {pR pG pS:Option Addr} {cR cG cS:Nat} {g r n:Nat} (hg:g < 64) (hr:r < 64) (hgb:∀ k,g.testBit k=true->k < s.staff.length) (hrb:∀ k,r.testBit k=true->k < s.rooms.length) (gt:GateN) (hgt:gateB n gt=true) (x:Value) (w:AW) (f:Fresh w) (hA:StrAt w pR pG pS cR cG cS s) (hx:ArrOf w 1 icells x gt.ways) :
    CallT Tryz.prog Tryz.T1 (.fn (.func 111) #[]) #[.agg (tourC pR pG pS cR cG cS s g r).toArray,.agg #[.int .i64 gt.A,.int .i64 gt.B,.int .i64 gt.need,x]] w (Ret (.bool (openB s g r gt)) (Grown w)):=by
 obtain⟨px,cx,rfl,_⟩:=id hx.open
 have g1:=(Grown.refl f).push (.cells (tourC pR pG pS cR cG cS s g r) 80 w.next 0 0)
 have O1:=Own.new f 80 (tourC pR pG pS cR cG cS s g r)
 have g2:=g1.push (.cells [.int .i64 gt.A,.int .i64 gt.B,.int .i64 gt.need,.slice px gt.ways.length cx] 71 (w.next+1) 0 0)
 have O2:=Own.new g1.2 71 [.int .i64 gt.A,.int .i64 gt.B,.int .i64 gt.need,.slice px gt.ways.length cx]
 rw[AW.next_push]at O2
 have O1':=O1.push (.cells [.int .i64 gt.A,.int .i64 gt.B,.int .i64 gt.need,.slice px gt.ways.length cx] 71 (w.next+1) 0 0)
 have n2:((w.push (.cells (tourC pR pG pS cR cG cS s g r) 80 w.next 0 0)).push (.cells [.int .i64 gt.A,.int .i64 gt.B,.int .i64 gt.need,.slice px gt.ways.length cx] 71 (w.next+1) 0 0)).next=w.next+1+1:=by rw[AW.next_push,AW.next_push]
 obtain⟨hwv,hwl⟩:=ways_val hgt
 have hl:=loadAll O1' (n:=5) rfl (by simp[tourC,oneCell])
 have hheld:=fun w' (g':Grown w w')=>held_ok hs (g:=g) (r:=r) hg hr hgb hrb w' g'.2 (hA.grown g')
 unfold tourC at *
 refine callT_code rfl Tryz.func111 rfl Tryz.s111_eq rfl ?_
 delta Tryz.s111 zo zt zg zh zon zv
 simp -dsimp -implicitDefEqProofs (maxSteps:=2000000) (disch:=first|assumption|omega|simp only[nx];omega|(repeat apply zfp);assumption|simp only[smA];done|simp[oneCell,znp]) only[go_sem,hl]
 generalize (w.push (.cells [.slice pR s.rooms.length cR,.slice pG s.gates.length cG,.slice pS s.staff.length cS,.int .i64 (g:Int),.int .i64 (r:Int)] 80 w.next 0 0)).push (.cells [.int .i64 gt.A,.int .i64 gt.B,.int .i64 gt.need,.slice px gt.ways.length cx] 71 (w.next+1) 0 0)=w2 at *
 apply callV_of (e:=rfl)
 . exact hheld w2 g2
 rintro _ w3 ⟨rfl,g3⟩
 have gg3:=g2.trans g3
 have hHl:=heldN_lt s g r
 generalize hHd:heldN s g r=H at *
 have g4:=(Grown.refl g3.2).push (.cells [.int .i64 0] 155 w3.next 0 0)
 have O4:=Own.new g3.2 155 [.int .i64 0]
 have st:=storeV_own1 (o:=0) (v:=.int .i64 (H:Int)) O4 (by simp) rfl
 simp only[setL]at st
 have m5:=MutS.put (S:=fun j=>j=w3.next) g4.2 rfl O4.lt (.cells [.int .i64 (H:Int)] 155 w3.next 0 0)
 have O5:=O4.put [.int .i64 (H:Int)]
 have g5:Grown w3 _:=⟨g4.1.trans (m5.keep (B:=w3.next) (fun j q=>by omega) g4.1.next),m5.fresh⟩
 have O15:=(O1'.keep g3.1).keep g5.1
 have O25:=(O2.keep g3.1).keep g5.1
 have c3:=O15.cell (o:=3) (v:=.int .i64 (g:Int)) rfl rfl
 have d2:=O25.cell (o:=2) (v:=.int .i64 gt.need) rfl rfl
 have d3:=O25.cell (o:=3) (v:=.slice px gt.ways.length cx) rfl rfl
 simp -dsimp -implicitDefEqProofs (maxSteps:=2000000) (disch:=first|assumption|omega|simp only[nx];omega|(repeat apply zfp);assumption|simp only[smA];done|simp[oneCell,znp]) only[go_sem,st]
 generalize (w3.push (.cells [.int .i64 0] 155 w3.next 0 0)).put w3.next (.cells [.int .i64 (H:Int)] 155 w3.next 0 0)=w5 at *
 have gg5:=gg3.trans g5
 have hle5:WLe w5 w5:=(Grown.refl g5.2).1.wle g5.2
 have hsx:same 12 (.slice px gt.ways.length cx) (.slice px gt.ways.length cx)=true:=same_s12V _ _ _
 have hsf:same 12 (.func (.func 130) #[] #[.pointer (some ⟨w3.next,0,none⟩)]) (.func (.func 130) #[] #[.pointer (some ⟨w3.next,0,none⟩)])=true:=by simp[same,same.all]
 simp -dsimp -implicitDefEqProofs (maxSteps:=2000000) (disch:=first|assumption|omega|simp only[nx];omega|(repeat apply zfp);assumption|simp only[smA];done|simp[oneCell,znp]) only[go_sem,c3,d2,Nat.zero_add]
 apply callV_of (e:=rfl)
 . exact size_ok g hg w5
 rintro _ _ ⟨rfl,rfl⟩
 by_cases hp:(popN g:Int) ≥ gt.need
 case neg =>
  have hd:decide ((popN g:Int) ≥ gt.need)=false:=decide_eq_false hp
  simp -dsimp -implicitDefEqProofs (maxSteps:=2000000) (disch:=first|assumption|omega|simp only[nx];omega|(repeat apply zfp);assumption|simp only[smA];done|simp[oneCell,znp]) only[go_sem,hle5,d2,hp,Nat.zero_add]
  exact⟨by unfold openB;rw[hd];rfl,gg5⟩
 have hd:decide ((popN g:Int) ≥ gt.need)=true:=decide_eq_true hp
 have hany:=ways_any H hHl (waysN gt) hwl (.slice px gt.ways.length cx) w3.next w5 g5.2 O5 (by rw[hwv];exact hx.grown gg5)
 simp -dsimp -implicitDefEqProofs (maxSteps:=2000000) (disch:=first|assumption|omega|simp only[nx];omega|(repeat apply zfp);assumption|simp only[smA];done|simp[oneCell,znp]) only[go_sem,hle5,d2,d3,hp,hsf,Nat.zero_add]
 apply callV_of (e:=rfl)
 . exact hany
 rintro _ _ ⟨rfl,rfl⟩
 simp -dsimp -implicitDefEqProofs (maxSteps:=2000000) (disch:=first|assumption|omega|simp only[nx];omega|(repeat apply zfp);assumption|simp only[smA];done|simp[oneCell,znp]) only[go_sem,hle5]
 exact⟨by unfold openB;rw[hd,hHd];rfl,gg5⟩
def Tryz.s109:SC:=(.seq (.ops false [zo 6 (.fieldAddr 80 (zv 1) 0) 0,zo 7 (.fieldAddr 26 (zv 6) 1) 0,zo 8 (.load 23 (zv 7)) 23,zo 9 (.call ⟨.builtin .len,⟨[(zv 8)]⟩,⟨[23]⟩⟩) 3,zo 10 (.move (zk 0)) 3]) (.block 0 (.loop (.seq (.ops false [zo 11 (.binOp .lss 3 (zv 10) (zv 9) 3) 0]) (.seq (.cond (.tmp 11) .skip (.exit 0)) (.seq (.block 1 (.seq (.ops false [zo 12 (.move (zv 10)) 3,zo 13 (.indexAddr 23 (zv 8) (zv 10)) 0,zo 14 (.load 71 (zv 13)) 71,zo 4 (.alloc 71) 0,zo 3 (.assign (zv 12)) 3,zon (.store 71 (zv 4) (zv 14)) 0]) (.seq (.seq (.ops false [zo 15 (.load 80 (zv 1)) 80,zo 16 (.load 71 (zv 4)) 71,zo 17 (.call ⟨.value (.func 110),⟨[(zv 15),(zv 16)]⟩,⟨[80,71]⟩⟩) 4,zo 18 (.unOp .not 4 (zv 17)) 4,zo 19 (.move (zv 18)) 4,zg 20 (.load 80 (zv 1)) 80 19 false,zg 21 (.load 71 (zv 4)) 71 19 false,zg 22 (.call ⟨.value (.func 111),⟨[(zv 20),(zv 21)]⟩,⟨[80,71]⟩⟩) 4 19 false,zg 23 (.unOp .not 4 (zv 22)) 4 19 false,zo 24 (.pick (zv 19) (.const (.bool true)) (zv 23)) 4]) (.cond (.tmp 24) (.exit 1) .skip)) (.seq (.ops false [zo 25 (.load 80 (zv 1)) 80,zo 5 (.alloc 80) 0,zon (.store 80 (zv 5) (zv 25)) 0]) (.seq (.ops true [zt 26 (.fieldAddr 80 (zv 5) 2) 0,zt 27 (.load 78 (zv 26)) 78,zt 28 (.fieldAddr 71 (zv 4) 0) 0,zt 29 (.load 3 (zv 28)) 3,zt 30 (.binOp .shl 78 (zk 1) (zv 29) 3) 78,zt 31 (.fieldAddr 71 (zv 4) 1) 0,zt 32 (.load 3 (zv 31)) 3,zt 33 (.binOp .shl 78 (zk 1) (zv 32) 3) 78,zt 34 (.binOp .or 78 (zv 30) (zv 33) 78) 78,zt 35 (.binOp .or 78 (zv 27) (zv 34) 78) 78,zt 36 (.fieldAddr 80 (zv 5) 2) 0,zon (.store 78 (zv 36) (zv 35)) 0]) (.seq (.ops false [zo 37 (.move (zv 0)) 145,zo 38 (.move (zv 3)) 3,zo 39 (.load 80 (zv 5)) 80,zo 40 (.call ⟨.value (zv 37),⟨[(zv 38),(zv 39)]⟩,⟨[3,80]⟩⟩) 4,zo 41 (.unOp .not 4 (zv 40)) 4]) (.cond (.tmp 41) .ret .skip))))))) (.ops false [zo 42 (.binOp .add 3 (zv 10) (zk 1) 3) 3,zo 10 (.move (zv 42)) 3])))))))
noncomputable def Tryz.s48:SC :=
 (.seq
  (.ops false [
    ⟨⟨(some 1),.box 80 (.tmp 0), 0, "",⟨[]⟩,none⟩,none,false⟩,
    ⟨⟨(some 2),.alloc 80, 0, "",⟨[]⟩,none⟩,none,false⟩])
  (.seq
   (.seq
    (.ops false [
      ⟨⟨(some 5),.load 80 (.tmp 1),80, "",⟨[]⟩,none⟩,none,false⟩,
      ⟨⟨(some 6),.call ⟨.value (.func 77),⟨[(.tmp 5)]⟩,⟨[80]⟩⟩,121, "",⟨[]⟩,none⟩,none,false⟩])
    (.block 0
     (.raw (.rangeFunc (.tmp 6) ⟨[7,8]⟩ (codeA Tryz.f48) (codeB Tryz.f48)))))
   (.seq
    (.ops false [
      ⟨⟨(some 11),.load 80 (.tmp 1),80, "",⟨[]⟩,none⟩,none,false⟩,
      ⟨⟨none,.store 80 (.tmp 2) (.tmp 11), 0, "",⟨[]⟩,none⟩,none,false⟩])
    .ret)))
def Tryz.ra48:SC:=(.ops false [zo 4 (.alloc 80) 0,zon (.store 80 (zv 4) (zv 8)) 0])
def Tryz.rb48:SC:=(.block 1 (.seq (.ops false [zo 9 (.load 80 (zv 4)) 80,zo 10 (.call ⟨.value (.func 48),⟨[(zv 9)]⟩,⟨[80]⟩⟩) 80,zon (.store 80 (zv 2) (zv 10)) 0]) .ret))
theorem Tryz.s109_eq:Tryz.f109.body.map sOf=some Tryz.s109:=by kernel_rfl
theorem Tryz.s48_eq:Tryz.f48.body.map sOf=some Tryz.s48:=by kernel_rfl
end Go.Proofs

namespace Go.Sim
open Go
section
variable {P:Program} {told:ToldF}
def jumpOf:Ex->Option Code
 | .ret=>some .ret
 | .exit id=>some (.exit id)
 | _=>none
theorem callT_yieldJ {l:Nat} {cap args:Array Value} {w:AW} {Q:Value->AW->Prop} {lp:ALoop} (hl:w.blk l=some (.loop lp)) (hs:Nat.beq args.size lp.params.size=true)
    (h : CodeT P told { fn:=lp.fn,round:=some l } lp.assign (putAll lp.tmps (lp.params.toList.zip args.toList)) [] w fun e t1 ds1 w1=>e=.normal/\∃ lp1:ALoop,w1.blk l=some (.loop lp1)/\lp1.state=.ready /\
      CodeT P told { fn:=lp.fn,round:=some l } lp.body t1 ds1 (w1.put l (.loop { lp1 with state:=.busy })) fun e2 t2 ds2 w2=>ds2=[]/\∃ lp2:ALoop,w2.blk l=some (.loop lp2) /\
       ((e2=.normal/\Q (.bool true) (w2.put l (.loop { lp2 with state:=.ready,pending:=none }))) \/ (∃ c,jumpOf e2=some c/\Q (.bool false) (w2.put l (.loop { lp2 with state:=.done,pending:=some c }))))) :
    CallT P told (.fn (.yield l) cap) args w Q:=by
 obtain⟨N,e,t1,ds1,w1,h1,rfl,lp1,h2,h3,N2,e2,t2,ds2,w2,k1,rfl,lp2,k2,k3⟩:=h
 obtain⟨st,pd,f1,t0,p1,a1,b1,d1⟩:=lp
 obtain⟨st1,pd1,f2,t3,p2,a2,b2,d2⟩:=lp1
 obtain⟨st2,pd2,f3,t4,p3,a3,b3,d3⟩:=lp2
 simp only at h3
 subst h3
 simp only at hs h1 k1 k3
 rcases k3 with ⟨rfl,k3⟩|⟨c,hc,k3⟩
 . refine⟨N+N2+1,.bool true,_,fun F n hF hn=>?_,k3⟩
   obtain⟨n,rfl⟩:∃ k,n=k+1:=⟨n - 1,by omega⟩
   simp only[acall,around,hl,hs,roundBody,h1 F n F (by omega) (by omega) (by omega),h2,k1 F n F (by omega) (by omega) (by omega),doneWith,adone,k2,guardPan]
 · refine ⟨N+N2+1,.bool false,_,fun F n hF hn=>?_,k3⟩
   obtain⟨n,rfl⟩:∃ k,n=k+1:=⟨n - 1,by omega⟩
   cases e2 with
   | ret =>
    simp only[jumpOf,Option.some.injEq]at hc
    subst hc
    simp only[acall,around,hl,hs,roundBody,h1 F n F (by omega) (by omega) (by omega),h2,k1 F n F (by omega) (by omega) (by omega),doneWith,adone,k2,guardPan]
   | exit id =>
    simp only[jumpOf,Option.some.injEq]at hc
    subst hc
    simp only[acall,around,hl,hs,roundBody,h1 F n F (by omega) (by omega) (by omega),h2,k1 F n F (by omega) (by omega) (by omega),doneWith,adone,k2,guardPan]
   | normal=>simp[jumpOf]at hc
   | pan v=>simp[jumpOf]at hc
theorem codeT_rangeJ {env:Env} (hr:env.round=none) {f:Operand} {ps:Array Tmp} {a b:Code} {t:Tmps} {ds:List DI} {w:AW} {Q:Ex->Tmps->List DI->AW->Prop} {fn:Fn} {first cap:Array Value} (hf:ev t f=.func fn first cap)
    (h : CallT P told (.fn fn cap) (first++#[.func (.yield (w.next+1)) #[] #[]]) ((w.push (.deferred (some []))).push (.loop ⟨.ready,none,env.fn,t,ps,a,b,w.next⟩)) fun _ w' =>
      ∃ lp:ALoop,w'.blk (w.next+1)=some (.loop lp)/\((lp.state=.ready/\lp.pending=none/\∀ W,W=w'.put (w.next+1) (.loop { lp with state:=.exhausted })->Q .normal t (.mark w.next :: ds) W) \/
       (lp.state=.done/\∃ e,jumpOf e=lp.pending/\lp.pending ≠ none/\∀ W,W=w'.put (w.next+1) (.loop { lp with state:=.exhausted })->Q e t (.mark w.next :: ds) W))) :
    CodeT P told env (.rangeFunc f ps a b) t ds w Q:=by
 obtain⟨N,v,w',h1,lp,h2,h3⟩:=h
 have hfull:w.full=false:=rfl
 have hn1:(w.push (.deferred (some []))).next=w.next+1:=AW.next_push _ _
 obtain⟨st,pd,f1,t1,p1,a1,b1,d1⟩:=lp
 simp only at h3
 rcases h3 with ⟨rfl,rfl,h5⟩|⟨rfl,e,he,hne,h5⟩
 . refine⟨N+1,.normal,t,.mark w.next :: ds,_,fun F n m hF hn hm=>?_,h5 _ rfl⟩
   obtain⟨m,rfl⟩:∃ k,m=k+1:=⟨m - 1,by omega⟩
   simp only[acode,aloop,hfull,aboutLoop,hr,hf,hn1,h1 F n (by omega) (by omega),ofCall,endLoopA,h2]
 · refine ⟨N+1,e,t,.mark w.next :: ds,_,fun F n m hF hn hm=>?_,h5 _ rfl⟩
   obtain⟨m,rfl⟩:∃ k,m=k+1:=⟨m - 1,by omega⟩
   cases e with
   | ret =>
    simp only[jumpOf]at he
    subst he
    simp only[acode,aloop,hfull,aboutLoop,hr,hf,hn1,h1 F n (by omega) (by omega),ofCall,endLoopA,h2]
   | exit id =>
    simp only[jumpOf]at he
    subst he
    simp only[acode,aloop,hfull,aboutLoop,hr,hf,hn1,h1 F n (by omega) (by omega),ofCall,endLoopA,h2]
   | normal=>simp only[jumpOf]at he;exact absurd he.symm hne
   | pan v=>simp only[jumpOf]at he;exact absurd he.symm hne
end
end Go.Sim

namespace Go.Proofs
open Go Go.RowKit Go.Sim
set_option maxRecDepth 100000
def stepB (s:StrN) (g r:Nat) (gt:GateN):Bool:=(r.testBit gt.A.toNat != r.testBit gt.B.toNat) && openB s g r gt
def nextR (r:Nat) (gt:GateN):Nat:=r ||| (2 ^ gt.A.toNat ||| 2 ^ gt.B.toNat)
def firstG (s:StrN) (g r:Nat):List GateN->Nat->Option (Nat × GateN)
 | [],_=>none
 | gt :: l,i=>if stepB s g r gt=true then some (i,gt) else firstG s g r l (i+1)
theorem firstG_at {s:StrN} {g r:Nat}:∀ {L:List GateN} {i j:Nat},(∀ k,(h:k < L.length)->k < i->stepB s g r L[k]=false)->(h:i < L.length)->stepB s g r L[i]=true->firstG s g r L j=some (j+i,L[i])
 | [],i,_,_,h,_=>by simp at h
 | gt :: L,0,j,_,_,hs=>by
  have hs':stepB s g r gt=true:=hs
  rw[firstG,if_pos hs'];rfl
 | gt :: L,i+1,j,hn,h,hs=>by
  have h0:=hn 0 (by simp) (by omega)
  rw[firstG,if_neg (by show ¬ stepB s g r gt=true;intro z;rw[show stepB s g r gt=false from h0]at z;cases z)]
  have:=firstG_at (L:=L) (i:=i) (j:=j+1) (fun k hk hki=>hn (k+1) (by simpa using hk) (by omega)) (by simpa using h) hs
  rw[this];simp;omega
theorem firstG_none {s:StrN} {g r:Nat}:∀ {L:List GateN} {j:Nat},(∀ x ∈ L,stepB s g r x=false)->firstG s g r L j=none
 | [],_,_=>rfl
 | gt :: L,j,h=>by
  rw[firstG,if_neg (by rw[h gt List.mem_cons_self];intro z;cases z)]
  exact firstG_none fun x hx=>h x (List.mem_cons_of_mem _ hx)
theorem gate_fit {n:Nat} {gt:GateN} (h:gateB n gt=true) (hn:n≤6):(gt.A=(gt.A.toNat:Int)/\gt.A.toNat < n)/\(gt.B=(gt.B.toNat:Int)/\gt.B.toNat < n):=by
 unfold gateB at h
 simp only[Bool.and_eq_true]at h
 have h1:=(inR_iff _ _ _).1 h.1
 have h2:=(inR_iff _ _ _).1 h.2.1
 omega
theorem pow_lt6 {a:Nat} (h:a < 6):2 ^ a < 64:=by
 have:∀ a,a < 6->2 ^ a < 64:=by decide
 exact this a h
set_option maxHeartbeats 32000000 in
theorem steps_ok {s:StrN} (hs:strB s=true) {pR pG pS:Option Addr} {cR cG cS:Nat} {g r:Nat} (hg:g < 64) (hr:r < 64) (hgb:∀ k,g.testBit k=true->k < s.staff.length) (hrb:∀ k,r.testBit k=true->k < s.rooms.length) {b1 lp:Nat} (Post:Option (Nat × GateN)->AW->Prop) (w:AW) (f:Fresh w) (hb:Own w b1 80 (tourC pR pG pS cR cG cS s g r)) (hA:StrAt w pR pG pS cR cG cS s)
    (hY:∀ i gt w',firstG s g r s.gates 0=some (i,gt)->gt ∈ s.gates->Grown w w'->CallT Tryz.prog Tryz.T1 (.fn (.yield lp) #[]) #[.int .i64 (i:Int),.agg (tourC pR pG pS cR cG cS s g (nextR r gt)).toArray] w' (fun v w''=>v=.bool false/\Post (some (i,gt)) w''))
    (hN:firstG s g r s.gates 0=none->∀ w',Grown w w'->Post none w') :
    CallT Tryz.prog Tryz.T1 (.fn (.func 109) #[.pointer (some ⟨b1,0,none⟩)]) #[.func (.yield lp) #[] #[]] w (fun _ w'=>Post (firstG s g r s.gates 0) w'):=by
 have c1:=hb.cell (o:=1) (v:=.slice pG s.gates.length cG) rfl rfl
 have hrl:s.rooms.length≤6:=by
  unfold strB roomsB at hs
  rw[Bool.and_eq_true,Bool.and_eq_true]at hs
  have:=(inR_iff _ _ _).1 hs.1.1;omega
 have hgall:∀ x ∈ s.gates,gateB s.rooms.length x=true:=by
  unfold strB gatesB at hs
  simp only[Bool.and_eq_true]at hs
  exact List.all_eq_true.1 hs.2.1.2
 obtain⟨ws,hws,hWA,hWW⟩:=hA.gates
 have hwl:ws.length=s.gates.length:=by rw[<- hws];simp
 obtain⟨_,_,ex,hc1,hc2,hat⟩:=hWA.open
 injection ex with ex1 ex2 ex3
 subst ex1 ex3
 refine callT_code rfl Tryz.func109 rfl Tryz.s109_eq rfl ?_
 delta Tryz.s109 zo zt zg zon zv zk
 simp -dsimp -implicitDefEqProofs (maxSteps:=2000000) (disch:=first|assumption|omega|simp only[nx];omega|(repeat apply zfp);assumption|simp only[smA];done|simp[oneCell,znp]) only[go_sem,c1,Nat.zero_add]
 refine loopR (fun k t ds w1=>∃ i:Nat,i≤s.gates.length/\k=s.gates.length - i/\ds=[]/\ev t (.tmp 0)=.func (.yield lp) #[] #[]/\ev t (.tmp 1)=.pointer (some ⟨b1,0,none⟩)/\ev t (.tmp 8)=.slice pG s.gates.length cG/\ev t (.tmp 9)=.int .i64 (s.gates.length:Int)/\ev t (.tmp 10)=.int .i64 (i:Int)/\(∀ k,(h:k < s.gates.length)->k < i->stepB s g r s.gates[k]=false)/\Keep w.next w w1/\Fresh w1) (s.gates.length) ?_ ?_
 . refine⟨0,by omega,by omega,rfl,?_,?_,?_,?_,?_,fun k h q=>by omega,.refl _ _,f⟩ <;> simp -dsimp -implicitDefEqProofs (maxSteps:=2000000) (disch:=first|assumption|omega|simp only[nx];omega|(repeat apply zfp);assumption|simp only[smA];done|simp[oneCell,znp]) only[go_sem] <;> rfl
 rintro k t ds w1 ⟨i,hii,rfl,rfl,e0,e1,e8,e9,e10,hno,k1,f1⟩
 have gW:Grown w w1:=⟨k1,f1⟩
 by_cases hlt:(i:Int) < (s.gates.length:Int)
 case neg =>
  obtain rfl:i=s.gates.length:=by omega
  have hnone:=firstG_none (s:=s) (g:=g) (r:=r) (L:=s.gates) (j:=0) fun x hx=>by
   obtain⟨k,hk,rfl⟩:=List.getElem_of_mem hx
   exact hno k hk hk
  simp -dsimp -implicitDefEqProofs (maxSteps:=2000000) (disch:=first|assumption|omega|simp only[nx];omega|(repeat apply zfp);assumption|simp only[smA];done|simp[oneCell,znp]) only[go_sem,e0,e1,e8,e9,e10,hlt]
  rw[hnone]
  exact hN hnone w1 gW
 have hlt':i < s.gates.length:=by omega
 obtain⟨b4,o4,rfl,_,hcell⟩:=hat i (by omega)
 have hwi:ws[i]'(by omega)=(s.gates[i],(ws[i]'(by omega)).2):=by
  have:(ws.map Prod.fst)[i]'(by rw[List.length_map];omega)=s.gates[i]:=by simp only[hws]
  rw[List.getElem_map]at this
  rw[<- this]
 have hx:=hWW _ (List.getElem_mem (l:=ws) (n:=i) (by omega))
 have a0:=hcell w1 k1 0 _ rfl
 have a1:=hcell w1 k1 1 _ rfl
 have a2:=hcell w1 k1 2 _ rfl
 have a3:=hcell w1 k1 3 _ rfl
 rw[hwi]at a0 a1 a2 a3 hx
 have hgi:=hgall _ (List.getElem_mem hlt')
 have hmem:s.gates[i] ∈ s.gates:=List.getElem_mem hlt'
 have hfst:=fun (h:stepB s g r s.gates[i]=true)=>firstG_at (s:=s) (g:=g) (r:=r) (L:=s.gates) (i:=i) (j:=0) hno hlt' h
 have hnext:=fun (h:stepB s g r s.gates[i]=false)=>(fun k (hk:k < s.gates.length) (hki:k < i+1)=>(by
  rcases Nat.lt_or_ge k i with q|q
  . exact hno k hk q
  . obtain rfl:k=i:=by omega
    exact h:stepB s g r s.gates[k]=false))
 generalize (ws[i]'(by omega)).2=x at *
 have hxw:ArrOf w 1 icells x s.gates[i].ways:=hx
 clear hx hwi
 generalize hG:s.gates[i]=G at *
 have hlo:loadV w1 true 4 (.pointer (some ⟨b4,o4+i * 4,none⟩))=some (.agg #[.int .i64 G.A,.int .i64 G.B,.int .i64 G.need,x]):=by
  rw[Nat.add_zero]at a0
  simp only[gcells]at a0 a1 a2 a3
  simp only[loadV,aCells,a0,a1,a2,a3]
 obtain⟨⟨hAe,hAl⟩,hBe,hBl⟩:=gate_fit hgi hrl
 obtain⟨A,hA'⟩:∃ A:Nat,G.A=(A:Int):=⟨_,hAe⟩
 obtain⟨B,hB'⟩:∃ B:Nat,G.B=(B:Int):=⟨_,hBe⟩
 have hAn:G.A.toNat=A:=by omega
 have hBn:G.B.toNat=B:=by omega
 rw[hAn]at hAl
 rw[hBn]at hBl
 clear hAe hBe
 obtain⟨px,cx,rfl,_⟩:=id hxw.open
 have hco:=fun w' (g':Grown w w')=>canOpen_ok hs (g:=g) (r:=r) hg hr hgb hrb G hgi _ w' g'.2 (hA.grown g') (hxw.grown g')
 rw[hA',hB']at hlo hco
 have hle:=fun w' (f':Fresh w')=>leadsOn_ok s g r (by omega) A B (by omega) (by omega) G.need (.slice px G.ways.length cx) rfl pR (some ⟨b4,o4,none⟩) pS cR cG cS w' f'
 have g2:=(Grown.refl f1).push (.cells [.int .i64 0,.int .i64 0,.int .i64 0,.slice none 0 0] 71 w1.next 0 0)
 have O2:=Own.new f1 71 [.int .i64 0,.int .i64 0,.int .i64 0,.slice none 0 0]
 have st:=storeV_own (o:=0) (l:=[.int .i64 (A:Int),.int .i64 (B:Int),.int .i64 G.need,.slice px G.ways.length cx]) (size:=4) O2 rfl (by omega) (by simp) rfl
 have hcut:setsL [.int .i64 0,.int .i64 0,.int .i64 0,.slice none 0 0] 0 [.int .i64 (A:Int),.int .i64 (B:Int),.int .i64 G.need,.slice px G.ways.length cx]=[.int .i64 (A:Int),.int .i64 (B:Int),.int .i64 G.need,.slice px G.ways.length cx]:=rfl
 rw[hcut]at st
 have m3:=MutS.put (S:=fun j=>j=w1.next) g2.2 rfl O2.lt (.cells [.int .i64 (A:Int),.int .i64 (B:Int),.int .i64 G.need,.slice px G.ways.length cx] 71 w1.next 0 0)
 have O3:=O2.put [.int .i64 (A:Int),.int .i64 (B:Int),.int .i64 G.need,.slice px G.ways.length cx]
 have g3:Grown w1 _:=⟨g2.1.trans (m3.keep (B:=w1.next) (fun j q=>by omega) g2.1.next),m3.fresh⟩
 have hl1:=fun w' (g':Grown w w')=>loadAll (hb.keep g'.1) (n:=5) rfl (by simp[tourC,oneCell])
 have hl3:=loadAll O3 (n:=4) rfl (by simp[oneCell])
 have gW3:=gW.trans g3
 have l13:=hl1 _ gW3
 unfold tourC at l13 hle hco hY
 simp -dsimp -implicitDefEqProofs (maxSteps:=2000000) (disch:=first|assumption|omega|simp only[nx];omega|(repeat apply zfp);assumption|simp only[smA];done|simp[oneCell,znp]) only[go_sem,e0,e1,e8,e9,e10,hlt,indexV_eq,hlo,st,l13,hl3]
 generalize (w1.push (.cells [.int .i64 0,.int .i64 0,.int .i64 0,.slice none 0 0] 71 w1.next 0 0)).put w1.next (.cells [.int .i64 (A:Int),.int .i64 (B:Int),.int .i64 G.need,.slice px G.ways.length cx] 71 w1.next 0 0)=w3 at *
 apply callV_of (e:=rfl)
 . exact hle w3 gW3.2
 rintro _ w4 ⟨rfl,g4⟩
 have gW4:=gW3.trans g4
 have g14:=g3.trans g4
 have hsb:stepB s g r G=((r.testBit A != r.testBit B) && openB s g r G):=by unfold stepB;rw[hAn,hBn]
 cases hld:(r.testBit A != r.testBit B) with
 | false =>
  have hsf:stepB s g r G=false:=by rw[hsb,hld];rfl
  simp -dsimp -implicitDefEqProofs (maxSteps:=2000000) (disch:=first|assumption|omega|simp only[nx];omega|(repeat apply zfp);assumption|simp only[smA];done|simp[oneCell,znp]) only[go_sem,e0,e1,e8,e9,e10,hld]
  refine⟨_,by omega,i+1,by omega,rfl,rfl,by(simp only[go_sem,e0];try rfl),by(simp only[go_sem,e1];try rfl),by(simp only[go_sem,e8];try rfl),by(simp only[go_sem,e9];try rfl),by(simp only[go_sem,e10];try rfl),hnext hsf,k1.trans (g14.1.mono k1.next),g14.2⟩
 | true =>
 have l14:=hl1 _ gW4
 have O4:=O3.keep g4.1
 have hl4:=loadAll O4 (n:=4) rfl (by simp[oneCell])
 unfold tourC at l14
 simp -dsimp -implicitDefEqProofs (maxSteps:=2000000) (disch:=first|assumption|omega|simp only[nx];omega|(repeat apply zfp);assumption|simp only[smA];done|simp[oneCell,znp]) only[go_sem,e0,e1,e8,e9,e10,hld,l14,hl4]
 apply callV_of (e:=rfl)
 . exact hco w4 gW4
 rintro _ w5 ⟨rfl,g5⟩
 have gW5:=gW4.trans g5
 have g15:=g14.trans g5
 cases hop:openB s g r G with
 | false =>
  have hsf:stepB s g r G=false:=by rw[hsb,hld,hop];rfl
  simp -dsimp -implicitDefEqProofs (maxSteps:=2000000) (disch:=first|assumption|omega|simp only[nx];omega|(repeat apply zfp);assumption|simp only[smA];done|simp[oneCell,znp]) only[go_sem,e0,e1,e8,e9,e10,hop]
  refine⟨_,by omega,i+1,by omega,rfl,rfl,by(simp only[go_sem,e0];try rfl),by(simp only[go_sem,e1];try rfl),by(simp only[go_sem,e8];try rfl),by(simp only[go_sem,e9];try rfl),by(simp only[go_sem,e10];try rfl),hnext hsf,k1.trans (g15.1.mono k1.next),g15.2⟩
 | true =>
 have hst:stepB s g r G=true:=by rw[hsb,hld,hop];rfl
 have hfg:=hfst hst
 rw[Nat.zero_add]at hfg
 rw[hfg]
 have l15:=hl1 _ gW5
 have O5:=O4.keep g5.1
 unfold tourC at l15
 have g6:=(Grown.refl g5.2).push (.cells [.slice none 0 0,.slice none 0 0,.slice none 0 0,.int .i64 0,.int .i64 0] 80 w5.next 0 0)
 have O6:=Own.new g5.2 80 [.slice none 0 0,.slice none 0 0,.slice none 0 0,.int .i64 0,.int .i64 0]
 have st6:=storeV_own (o:=0) (l:=[.slice pR s.rooms.length cR,.slice (some ⟨b4,o4,none⟩) s.gates.length cG,.slice pS s.staff.length cS,.int .i64 (g:Int),.int .i64 (r:Int)]) (size:=5) O6 rfl (by omega) (by simp) rfl
 have hcut6:setsL [.slice none 0 0,.slice none 0 0,.slice none 0 0,.int .i64 0,.int .i64 0] 0 [.slice pR s.rooms.length cR,.slice (some ⟨b4,o4,none⟩) s.gates.length cG,.slice pS s.staff.length cS,.int .i64 (g:Int),.int .i64 (r:Int)]=[.slice pR s.rooms.length cR,.slice (some ⟨b4,o4,none⟩) s.gates.length cG,.slice pS s.staff.length cS,.int .i64 (g:Int),.int .i64 (r:Int)]:=rfl
 rw[hcut6]at st6
 have m7:=MutS.put (S:=fun j=>j=w5.next) g6.2 rfl O6.lt (.cells [.slice pR s.rooms.length cR,.slice (some ⟨b4,o4,none⟩) s.gates.length cG,.slice pS s.staff.length cS,.int .i64 (g:Int),.int .i64 (r:Int)] 80 w5.next 0 0)
 have O7:=O6.put [.slice pR s.rooms.length cR,.slice (some ⟨b4,o4,none⟩) s.gates.length cG,.slice pS s.staff.length cS,.int .i64 (g:Int),.int .i64 (r:Int)]
 have g7:Grown w5 _:=⟨g6.1.trans (m7.keep (B:=w5.next) (fun j q=>by omega) g6.1.next),m7.fresh⟩
 have O57:=O5.keep g7.1
 have d0:=O57.cell (o:=0) (v:=.int .i64 (A:Int)) rfl rfl
 have d1:=O57.cell (o:=1) (v:=.int .i64 (B:Int)) rfl rfl
 have c4:=O7.cell (o:=4) (v:=.int .i64 (r:Int)) rfl rfl
 have hsA:=full_shl (n:=A) (by omega)
 have hsB:=full_shl (n:=B) (by omega)
 have pA:=pow_lt6 (a:=A) (by omega)
 have pB:=pow_lt6 (a:=B) (by omega)
 have h0A:¬ (A:Int) < 0:=by omega
 have h0B:¬ (B:Int) < 0:=by omega
 have ho1:=or_nat (a:=2 ^ A) (b:=2 ^ B) (by omega) (by omega)
 have pAB:2 ^ A ||| 2 ^ B < 64:=Nat.or_lt_two_pow (n:=6) pA pB
 have ho2:=or_nat (a:=r) (b:=2 ^ A ||| 2 ^ B) (by omega) (by omega)
 have hnr:nextR r G=r ||| (2 ^ A ||| 2 ^ B):=by unfold nextR;rw[hAn,hBn]
 rw[<- hnr]at ho2
 have st8:=storeV_own1 (o:=4) (v:=.int .i64 (nextR r G:Int)) O7 (by simp) rfl
 simp only[setL]at st8
 have m8:=MutS.put (S:=fun j=>j=w5.next) m7.fresh rfl O7.lt (.cells [.slice pR s.rooms.length cR,.slice (some ⟨b4,o4,none⟩) s.gates.length cG,.slice pS s.staff.length cS,.int .i64 (g:Int),.int .i64 (nextR r G:Int)] 80 w5.next 0 0)
 have O8:=O7.put [.slice pR s.rooms.length cR,.slice (some ⟨b4,o4,none⟩) s.gates.length cG,.slice pS s.staff.length cS,.int .i64 (g:Int),.int .i64 (nextR r G:Int)]
 have hl8:=loadAll O8 (n:=5) rfl (by simp[oneCell])
 have g8:Grown w5 _:=⟨g7.1.trans (m8.keep (B:=w5.next) (fun j q=>by omega) g7.1.next),m8.fresh⟩
 simp -dsimp -implicitDefEqProofs (maxSteps:=2000000) (disch:=first|assumption|omega|simp only[nx];omega|(repeat apply zfp);assumption|simp only[smA];done|simp[oneCell,znp]) only[go_sem,e0,e1,e8,e9,e10,hop,l15,st6,d0,d1,c4,h0A,h0B,hsA,hsB,ho1,ho2,st8,hl8,Nat.zero_add]
 apply callV_of (e:=rfl)
 . exact hY i G _ hfg hmem (gW5.trans g8)
 rintro _ w10 ⟨rfl,hP⟩
 simp -dsimp -implicitDefEqProofs (maxSteps:=2000000) (disch:=first|assumption|omega|simp only[nx];omega|(repeat apply zfp);assumption|simp only[smA];done|simp[oneCell,znp]) only[go_sem]
 exact hP
set_option maxHeartbeats 32000000 in
theorem stepsJ_ok {s:StrN} (hs:strB s=true) {pR pG pS:Option Addr} {cR cG cS:Nat} {g r:Nat} (hg:g < 64) (hr:r < 64) (hgb:∀ k,g.testBit k=true->k < s.staff.length) (hrb:∀ k,r.testBit k=true->k < s.rooms.length) {b1 lp:Nat} (J:Nat->AW->Prop) (Post:AW->Prop) (w:AW)
    (hJA:∀ i w',J i w'->Own w' b1 80 (tourC pR pG pS cR cG cS s g r)/\StrAt w' pR pG pS cR cG cS s/\Fresh w')
    (hJg:∀ i w' w'',J i w'->Grown w' w''->J i w'')
    (h0:J 0 w)
    (hK:∀ i (h:i < s.gates.length) w',stepB s g r s.gates[i]=false->J i w'->J (i+1) w')
    (hY:∀ i (h:i < s.gates.length) w',stepB s g r s.gates[i]=true->J i w'->CallT Tryz.prog Tryz.T1 (.fn (.yield lp) #[]) #[.int .i64 (i:Int),.agg (tourC pR pG pS cR cG cS s g (nextR r s.gates[i])).toArray] w' (fun v w''=>(v=.bool true/\J (i+1) w'') \/ (v=.bool false/\Post w'')))
    (hN:∀ w',J s.gates.length w'->Post w') :
    CallT Tryz.prog Tryz.T1 (.fn (.func 109) #[.pointer (some ⟨b1,0,none⟩)]) #[.func (.yield lp) #[] #[]] w (fun _ w'=>Post w'):=by
 obtain⟨hb0,hA0,f⟩:=hJA 0 w h0
 have c1:=hb0.cell (o:=1) (v:=.slice pG s.gates.length cG) rfl rfl
 have hrl:s.rooms.length≤6:=by
  unfold strB roomsB at hs
  rw[Bool.and_eq_true,Bool.and_eq_true]at hs
  have:=(inR_iff _ _ _).1 hs.1.1;omega
 have hgall:∀ x ∈ s.gates,gateB s.rooms.length x=true:=by
  unfold strB gatesB at hs
  simp only[Bool.and_eq_true]at hs
  exact List.all_eq_true.1 hs.2.1.2
 refine callT_code rfl Tryz.func109 rfl Tryz.s109_eq rfl ?_
 delta Tryz.s109 zo zt zg zon zv zk
 simp -dsimp -implicitDefEqProofs (maxSteps:=2000000) (disch:=first|assumption|omega|simp only[nx];omega|(repeat apply zfp);assumption|simp only[smA];done|simp[oneCell,znp]) only[go_sem,c1,Nat.zero_add]
 clear hb0 hA0 c1
 refine loopR (fun k t ds w1=>∃ i:Nat,i≤s.gates.length/\k=s.gates.length - i/\ds=[]/\ev t (.tmp 0)=.func (.yield lp) #[] #[]/\ev t (.tmp 1)=.pointer (some ⟨b1,0,none⟩)/\ev t (.tmp 8)=.slice pG s.gates.length cG/\ev t (.tmp 9)=.int .i64 (s.gates.length:Int)/\ev t (.tmp 10)=.int .i64 (i:Int)/\J i w1) (s.gates.length) ?_ ?_
 . refine⟨0,by omega,by omega,rfl,?_,?_,?_,?_,?_,h0⟩ <;> simp -dsimp -implicitDefEqProofs (maxSteps:=2000000) (disch:=first|assumption|omega|simp only[nx];omega|(repeat apply zfp);assumption|simp only[smA];done|simp[oneCell,znp]) only[go_sem] <;> rfl
 rintro k t ds w1 ⟨i,hii,rfl,rfl,e0,e1,e8,e9,e10,hj⟩
 by_cases hlt:(i:Int) < (s.gates.length:Int)
 case neg =>
  obtain rfl:i=s.gates.length:=by omega
  simp -dsimp -implicitDefEqProofs (maxSteps:=2000000) (disch:=first|assumption|omega|simp only[nx];omega|(repeat apply zfp);assumption|simp only[smA];done|simp[oneCell,znp]) only[go_sem,e0,e1,e8,e9,e10,hlt]
  exact hN w1 hj
 have hlt':i < s.gates.length:=by omega
 obtain⟨hb,hA,f1⟩:=hJA i w1 hj
 have k1:Keep w1.next w1 w1:=.refl _ _
 obtain⟨ws,hws,hWA,hWW⟩:=hA.gates
 have hwl:ws.length=s.gates.length:=by rw[<- hws];simp
 obtain⟨_,_,ex,hc1,hc2,hat⟩:=hWA.open
 injection ex with ex1 ex2 ex3
 subst ex1 ex3
 obtain⟨b4,o4,rfl,_,hcell⟩:=hat i (by omega)
 have hwi:ws[i]'(by omega)=(s.gates[i],(ws[i]'(by omega)).2):=by
  have:(ws.map Prod.fst)[i]'(by rw[List.length_map];omega)=s.gates[i]:=by simp only[hws]
  rw[List.getElem_map]at this
  rw[<- this]
 have hx:=hWW _ (List.getElem_mem (l:=ws) (n:=i) (by omega))
 have a0:=hcell w1 k1 0 _ rfl
 have a1:=hcell w1 k1 1 _ rfl
 have a2:=hcell w1 k1 2 _ rfl
 have a3:=hcell w1 k1 3 _ rfl
 rw[hwi]at a0 a1 a2 a3 hx
 have hgi:=hgall _ (List.getElem_mem hlt')
 have hmem:s.gates[i] ∈ s.gates:=List.getElem_mem hlt'
 have hKi:=hK i hlt'
 have hYi:=hY i hlt'
 generalize (ws[i]'(by omega)).2=x at *
 have hxw:ArrOf w1 1 icells x s.gates[i].ways:=hx
 clear hx hwi
 generalize hG:s.gates[i]=G at *
 have hlo:loadV w1 true 4 (.pointer (some ⟨b4,o4+i * 4,none⟩))=some (.agg #[.int .i64 G.A,.int .i64 G.B,.int .i64 G.need,x]):=by
  rw[Nat.add_zero]at a0
  simp only[gcells]at a0 a1 a2 a3
  simp only[loadV,aCells,a0,a1,a2,a3]
 obtain⟨⟨hAe,hAl⟩,hBe,hBl⟩:=gate_fit hgi hrl
 obtain⟨A,hA'⟩:∃ A:Nat,G.A=(A:Int):=⟨_,hAe⟩
 obtain⟨B,hB'⟩:∃ B:Nat,G.B=(B:Int):=⟨_,hBe⟩
 have hAn:G.A.toNat=A:=by omega
 have hBn:G.B.toNat=B:=by omega
 rw[hAn]at hAl
 rw[hBn]at hBl
 clear hAe hBe
 obtain⟨px,cx,rfl,_⟩:=id hxw.open
 have hco:=fun w' (g':Grown w1 w')=>canOpen_ok hs (g:=g) (r:=r) hg hr hgb hrb G hgi _ w' g'.2 (hA.grown g') (hxw.grown g')
 rw[hA',hB']at hlo hco
 have hle:=fun w' (f':Fresh w')=>leadsOn_ok s g r (by omega) A B (by omega) (by omega) G.need (.slice px G.ways.length cx) rfl pR (some ⟨b4,o4,none⟩) pS cR cG cS w' f'
 have g2:=(Grown.refl f1).push (.cells [.int .i64 0,.int .i64 0,.int .i64 0,.slice none 0 0] 71 w1.next 0 0)
 have O2:=Own.new f1 71 [.int .i64 0,.int .i64 0,.int .i64 0,.slice none 0 0]
 have st:=storeV_own (o:=0) (l:=[.int .i64 (A:Int),.int .i64 (B:Int),.int .i64 G.need,.slice px G.ways.length cx]) (size:=4) O2 rfl (by omega) (by simp) rfl
 have hcut:setsL [.int .i64 0,.int .i64 0,.int .i64 0,.slice none 0 0] 0 [.int .i64 (A:Int),.int .i64 (B:Int),.int .i64 G.need,.slice px G.ways.length cx]=[.int .i64 (A:Int),.int .i64 (B:Int),.int .i64 G.need,.slice px G.ways.length cx]:=rfl
 rw[hcut]at st
 have m3:=MutS.put (S:=fun j=>j=w1.next) g2.2 rfl O2.lt (.cells [.int .i64 (A:Int),.int .i64 (B:Int),.int .i64 G.need,.slice px G.ways.length cx] 71 w1.next 0 0)
 have O3:=O2.put [.int .i64 (A:Int),.int .i64 (B:Int),.int .i64 G.need,.slice px G.ways.length cx]
 have g3:Grown w1 _:=⟨g2.1.trans (m3.keep (B:=w1.next) (fun j q=>by omega) g2.1.next),m3.fresh⟩
 have hl1:=fun w' (g':Grown w1 w')=>loadAll (hb.keep g'.1) (n:=5) rfl (by simp[tourC,oneCell])
 have hl3:=loadAll O3 (n:=4) rfl (by simp[oneCell])
 have gW3:=g3
 have l13:=hl1 _ gW3
 unfold tourC at l13 hle hco hYi
 simp -dsimp -implicitDefEqProofs (maxSteps:=2000000) (disch:=first|assumption|omega|simp only[nx];omega|(repeat apply zfp);assumption|simp only[smA];done|simp[oneCell,znp]) only[go_sem,e0,e1,e8,e9,e10,hlt,indexV_eq,hlo,st,l13,hl3]
 generalize (w1.push (.cells [.int .i64 0,.int .i64 0,.int .i64 0,.slice none 0 0] 71 w1.next 0 0)).put w1.next (.cells [.int .i64 (A:Int),.int .i64 (B:Int),.int .i64 G.need,.slice px G.ways.length cx] 71 w1.next 0 0)=w3 at *
 apply callV_of (e:=rfl)
 . exact hle w3 gW3.2
 rintro _ w4 ⟨rfl,g4⟩
 have gW4:=gW3.trans g4
 have g14:=g3.trans g4
 have hsb:stepB s g r G=((r.testBit A != r.testBit B) && openB s g r G):=by unfold stepB;rw[hAn,hBn]
 cases hld:(r.testBit A != r.testBit B) with
 | false =>
  have hsf:stepB s g r G=false:=by rw[hsb,hld];rfl
  simp -dsimp -implicitDefEqProofs (maxSteps:=2000000) (disch:=first|assumption|omega|simp only[nx];omega|(repeat apply zfp);assumption|simp only[smA];done|simp[oneCell,znp]) only[go_sem,e0,e1,e8,e9,e10,hld]
  refine⟨_,by omega,i+1,by omega,rfl,rfl,by(simp only[go_sem,e0];try rfl),by(simp only[go_sem,e1];try rfl),by(simp only[go_sem,e8];try rfl),by(simp only[go_sem,e9];try rfl),by(simp only[go_sem,e10];try rfl),hKi _ hsf (hJg _ _ _ hj g14)⟩
 | true =>
 have l14:=hl1 _ gW4
 have O4:=O3.keep g4.1
 have hl4:=loadAll O4 (n:=4) rfl (by simp[oneCell])
 unfold tourC at l14
 simp -dsimp -implicitDefEqProofs (maxSteps:=2000000) (disch:=first|assumption|omega|simp only[nx];omega|(repeat apply zfp);assumption|simp only[smA];done|simp[oneCell,znp]) only[go_sem,e0,e1,e8,e9,e10,hld,l14,hl4]
 apply callV_of (e:=rfl)
 . exact hco w4 gW4
 rintro _ w5 ⟨rfl,g5⟩
 have gW5:=gW4.trans g5
 have g15:=g14.trans g5
 cases hop:openB s g r G with
 | false =>
  have hsf:stepB s g r G=false:=by rw[hsb,hld,hop];rfl
  simp -dsimp -implicitDefEqProofs (maxSteps:=2000000) (disch:=first|assumption|omega|simp only[nx];omega|(repeat apply zfp);assumption|simp only[smA];done|simp[oneCell,znp]) only[go_sem,e0,e1,e8,e9,e10,hop]
  refine⟨_,by omega,i+1,by omega,rfl,rfl,by(simp only[go_sem,e0];try rfl),by(simp only[go_sem,e1];try rfl),by(simp only[go_sem,e8];try rfl),by(simp only[go_sem,e9];try rfl),by(simp only[go_sem,e10];try rfl),hKi _ hsf (hJg _ _ _ hj g15)⟩
 | true =>
 have hst:stepB s g r G=true:=by rw[hsb,hld,hop];rfl
 have l15:=hl1 _ gW5
 have O5:=O4.keep g5.1
 unfold tourC at l15
 have g6:=(Grown.refl g5.2).push (.cells [.slice none 0 0,.slice none 0 0,.slice none 0 0,.int .i64 0,.int .i64 0] 80 w5.next 0 0)
 have O6:=Own.new g5.2 80 [.slice none 0 0,.slice none 0 0,.slice none 0 0,.int .i64 0,.int .i64 0]
 have st6:=storeV_own (o:=0) (l:=[.slice pR s.rooms.length cR,.slice (some ⟨b4,o4,none⟩) s.gates.length cG,.slice pS s.staff.length cS,.int .i64 (g:Int),.int .i64 (r:Int)]) (size:=5) O6 rfl (by omega) (by simp) rfl
 have hcut6:setsL [.slice none 0 0,.slice none 0 0,.slice none 0 0,.int .i64 0,.int .i64 0] 0 [.slice pR s.rooms.length cR,.slice (some ⟨b4,o4,none⟩) s.gates.length cG,.slice pS s.staff.length cS,.int .i64 (g:Int),.int .i64 (r:Int)]=[.slice pR s.rooms.length cR,.slice (some ⟨b4,o4,none⟩) s.gates.length cG,.slice pS s.staff.length cS,.int .i64 (g:Int),.int .i64 (r:Int)]:=rfl
 rw[hcut6]at st6
 have m7:=MutS.put (S:=fun j=>j=w5.next) g6.2 rfl O6.lt (.cells [.slice pR s.rooms.length cR,.slice (some ⟨b4,o4,none⟩) s.gates.length cG,.slice pS s.staff.length cS,.int .i64 (g:Int),.int .i64 (r:Int)] 80 w5.next 0 0)
 have O7:=O6.put [.slice pR s.rooms.length cR,.slice (some ⟨b4,o4,none⟩) s.gates.length cG,.slice pS s.staff.length cS,.int .i64 (g:Int),.int .i64 (r:Int)]
 have g7:Grown w5 _:=⟨g6.1.trans (m7.keep (B:=w5.next) (fun j q=>by omega) g6.1.next),m7.fresh⟩
 have O57:=O5.keep g7.1
 have d0:=O57.cell (o:=0) (v:=.int .i64 (A:Int)) rfl rfl
 have d1:=O57.cell (o:=1) (v:=.int .i64 (B:Int)) rfl rfl
 have c4:=O7.cell (o:=4) (v:=.int .i64 (r:Int)) rfl rfl
 have hsA:=full_shl (n:=A) (by omega)
 have hsB:=full_shl (n:=B) (by omega)
 have pA:=pow_lt6 (a:=A) (by omega)
 have pB:=pow_lt6 (a:=B) (by omega)
 have h0A:¬ (A:Int) < 0:=by omega
 have h0B:¬ (B:Int) < 0:=by omega
 have ho1:=or_nat (a:=2 ^ A) (b:=2 ^ B) (by omega) (by omega)
 have pAB:2 ^ A ||| 2 ^ B < 64:=Nat.or_lt_two_pow (n:=6) pA pB
 have ho2:=or_nat (a:=r) (b:=2 ^ A ||| 2 ^ B) (by omega) (by omega)
 have hnr:nextR r G=r ||| (2 ^ A ||| 2 ^ B):=by unfold nextR;rw[hAn,hBn]
 rw[<- hnr]at ho2
 have st8:=storeV_own1 (o:=4) (v:=.int .i64 (nextR r G:Int)) O7 (by simp) rfl
 simp only[setL]at st8
 have m8:=MutS.put (S:=fun j=>j=w5.next) m7.fresh rfl O7.lt (.cells [.slice pR s.rooms.length cR,.slice (some ⟨b4,o4,none⟩) s.gates.length cG,.slice pS s.staff.length cS,.int .i64 (g:Int),.int .i64 (nextR r G:Int)] 80 w5.next 0 0)
 have O8:=O7.put [.slice pR s.rooms.length cR,.slice (some ⟨b4,o4,none⟩) s.gates.length cG,.slice pS s.staff.length cS,.int .i64 (g:Int),.int .i64 (nextR r G:Int)]
 have hl8:=loadAll O8 (n:=5) rfl (by simp[oneCell])
 have g8:Grown w5 _:=⟨g7.1.trans (m8.keep (B:=w5.next) (fun j q=>by omega) g7.1.next),m8.fresh⟩
 simp -dsimp -implicitDefEqProofs (maxSteps:=2000000) (disch:=first|assumption|omega|simp only[nx];omega|(repeat apply zfp);assumption|simp only[smA];done|simp[oneCell,znp]) only[go_sem,e0,e1,e8,e9,e10,hop,l15,st6,d0,d1,c4,h0A,h0B,hsA,hsB,ho1,ho2,st8,hl8,Nat.zero_add]
 apply callV_of (e:=rfl)
 . exact hYi _ hst (hJg _ _ _ hj (gW5.trans g8))
 rintro _ w10 q10
 rcases q10 with ⟨rfl,hj'⟩|⟨rfl,hP⟩
 . simp -dsimp -implicitDefEqProofs (maxSteps:=2000000) (disch:=first|assumption|omega|simp only[nx];omega|(repeat apply zfp);assumption|simp only[smA];done|simp[oneCell,znp]) only[go_sem,e0,e1,e8,e9,e10]
   refine⟨_,by omega,i+1,by omega,rfl,rfl,by(simp only[go_sem,e0];try rfl),by(simp only[go_sem,e1];try rfl),by(simp only[go_sem,e8];try rfl),by(simp only[go_sem,e9];try rfl),by(simp only[go_sem,e10];try rfl),hj'⟩
 . simp -dsimp -implicitDefEqProofs (maxSteps:=2000000) (disch:=first|assumption|omega|simp only[nx];omega|(repeat apply zfp);assumption|simp only[smA];done|simp[oneCell,znp]) only[go_sem]
   exact hP
def endF (s:StrN) (g:Nat):Nat->Nat->Nat
 | 0,r=>r
 | k+1,r=>match firstG s g r s.gates 0 with
  | none=>r
  | some (_,gt)=>endF s g k (nextR r gt)
theorem firstG_is {s:StrN} {g r:Nat}:∀ {L:List GateN} {j i:Nat} {gt:GateN},firstG s g r L j=some (i,gt)->gt ∈ L/\stepB s g r gt=true
 | [],_,_,_,h=>by cases h
 | x :: L,j,i,gt,h=>by
  rw[firstG]at h
  split at h
  . rename_i q
    injection h with h
    injection h with h1 h2
    subst h2;exact⟨List.mem_cons_self,q⟩
  . obtain⟨a,b⟩:=firstG_is h
    exact⟨List.mem_cons_of_mem _ a,b⟩
theorem next_more {s:StrN} {g r:Nat} {gt:GateN} {n:Nat} (h:stepB s g r gt=true) (hgt:gateB n gt=true) (hn:n≤6) (hr:r < 64) (hrb:∀ k,r.testBit k=true->k < n):r < nextR r gt/\nextR r gt < 64/\∀ k,(nextR r gt).testBit k=true->k < n:=by
 obtain⟨⟨_,hA⟩,_,hB⟩:=gate_fit hgt hn
 unfold stepB at h
 rw[Bool.and_eq_true]at h
 have hne:=h.1
 unfold nextR
 generalize gt.A.toNat=A at *
 generalize gt.B.toNat=B at *
 have pA:=pow_lt6 (a:=A) (by omega)
 have pB:=pow_lt6 (a:=B) (by omega)
 have hor:r ||| (2 ^ A ||| 2 ^ B) < 64:=Nat.or_lt_two_pow (n:=6) hr (Nat.or_lt_two_pow (n:=6) pA pB)
 refine⟨?_,hor,fun k hk=>?_⟩
 · have hle:r≤r ||| (2 ^ A ||| 2 ^ B):=Nat.left_le_or
   rcases Nat.lt_or_ge r (r ||| (2 ^ A ||| 2 ^ B))with q|q
   . exact q
   . exfalso
     have he:r=r ||| (2 ^ A ||| 2 ^ B):=by omega
     have ha:r.testBit A=true:=by rw[he];simp[Nat.testBit_or,Nat.testBit_two_pow]
     have hb:r.testBit B=true:=by rw[he];simp[Nat.testBit_or,Nat.testBit_two_pow]
     rw[ha,hb]at hne;simp at hne
 . rw[Nat.testBit_or,Nat.testBit_or,Nat.testBit_two_pow,Nat.testBit_two_pow]at hk
   simp only[Bool.or_eq_true,decide_eq_true_eq]at hk
   rcases hk with q|q|q
   . exact hrb k q
   . omega
   . omega
theorem steps_mk (T:List Value) (hT:T.length=5) (h1:∀ v ∈ T,oneCell v=true) (w:AW) (f:Fresh w):CallT Tryz.prog Tryz.T1 (.fn (.func 77) #[]) #[.agg T.toArray] w (fun v w'=>v=.func (.func 109) #[] #[.pointer (some ⟨w.next,0,none⟩)]/\Own w' w.next 80 T/\Grown w w'/\w'.next=w.next+1):=by
 have g1:=(Grown.refl f).push (.cells T 80 w.next 0 0)
 have O1:=Own.new f 80 T
 obtain ⟨a,b,c,d,e,rfl⟩:∃ a b c d e,T=[a,b,c,d,e]:=by
  rcases T with _|⟨a,_|⟨b,_|⟨c,_|⟨d,_|⟨e,_|⟨x,T⟩⟩⟩⟩⟩⟩ <;> simp at hT
  exact⟨a,b,c,d,e,rfl⟩
 refine callT_code rfl Tryz.func77 rfl Tryz.s77_eq rfl ?_
 delta Tryz.s77 zo zv
 simp -dsimp -implicitDefEqProofs (maxSteps:=2000000) (disch:=first|assumption|omega|simp only[nx];omega|(repeat apply zfp);assumption|simp only[smA];done|simp[oneCell,znp]) only[go_sem]
 exact⟨trivial,O1,g1,trivial⟩
noncomputable abbrev lpE (s:LoopState) (pd:Option Code) (t:Tmps) (dm:Nat):ALoop:=⟨s,pd,48,t,#[7,8],codeA Tryz.f48,codeB Tryz.f48,dm⟩
theorem Tryz.ra48_eq:sOf (codeA Tryz.f48)=Tryz.ra48:=by kernel_rfl
theorem Tryz.rb48_eq:sOf (codeB Tryz.f48)=Tryz.rb48:=by kernel_rfl
set_option maxHeartbeats 16000000 in
theorem yieldE_ok {s:StrN} {pR pG pS:Option Addr} {cR cG cS:Nat} {g r1 r2:Nat} {B b2 dm lp:Nat} {w0:AW} (t:Tmps) (e2:ev t (.tmp 2)=.pointer (some ⟨b2,0,none⟩)) (i:Nat) (w:AW) (f:Fresh w)
    (hl:w.blk lp=some (.loop (lpE .ready none t dm))) (O2:Own w b2 80 [.slice none 0 0,.slice none 0 0,.slice none 0 0,.int .i64 0,.int .i64 0]) (hm:w.blk dm=some (.deferred (some []))) (hb:B≤b2/\b2 < dm/\dm < lp/\lp < w.next) (k0:Keep B w0 w)
    (hrec:∀ w',Fresh w'->Keep lp w w'->CallT Tryz.prog Tryz.T1 (.fn (.func 48) #[]) #[.agg (tourC pR pG pS cR cG cS s g r1).toArray] w' (Ret (.agg (tourC pR pG pS cR cG cS s g r2).toArray) (Grown w'))) :
    CallT Tryz.prog Tryz.T1 (.fn (.yield lp) #[]) #[.int .i64 (i:Int),.agg (tourC pR pG pS cR cG cS s g r1).toArray] w (fun v w'=>v=.bool false/\∃ lv:ALoop,w'.blk lp=some (.loop lv)/\lv.state=.done/\lv.pending=some .ret/\Own w' b2 80 (tourC pR pG pS cR cG cS s g r2)/\w'.blk dm=some (.deferred (some []))/\Keep B w0 w'/\Fresh w'/\lp < w'.next):=by
 unfold tourC at *
 have g1:=(Grown.refl f).push (.cells [.slice none 0 0,.slice none 0 0,.slice none 0 0,.int .i64 0,.int .i64 0] 80 w.next 0 0)
 have O4:=Own.new f 80 [.slice none 0 0,.slice none 0 0,.slice none 0 0,.int .i64 0,.int .i64 0]
 have st:=storeV_own (o:=0) (l:=[.slice pR s.rooms.length cR,.slice pG s.gates.length cG,.slice pS s.staff.length cS,.int .i64 (g:Int),.int .i64 (r1:Int)]) (size:=5) O4 rfl (by omega) (by simp) rfl
 have hcut:∀ x:Nat,setsL [.slice none 0 0,.slice none 0 0,.slice none 0 0,.int .i64 0,.int .i64 0] 0 [.slice pR s.rooms.length cR,.slice pG s.gates.length cG,.slice pS s.staff.length cS,.int .i64 (g:Int),.int .i64 (x:Int)]=[.slice pR s.rooms.length cR,.slice pG s.gates.length cG,.slice pS s.staff.length cS,.int .i64 (g:Int),.int .i64 (x:Int)]:=fun x=>rfl
 rw[hcut]at st
 have m2:=MutS.put (S:=fun j=>j=w.next) g1.2 rfl O4.lt (.cells [.slice pR s.rooms.length cR,.slice pG s.gates.length cG,.slice pS s.staff.length cS,.int .i64 (g:Int),.int .i64 (r1:Int)] 80 w.next 0 0)
 have O5:=O4.put [.slice pR s.rooms.length cR,.slice pG s.gates.length cG,.slice pS s.staff.length cS,.int .i64 (g:Int),.int .i64 (r1:Int)]
 have g2:Grown w _:=⟨g1.1.trans (m2.keep (B:=w.next) (fun j q=>by omega) g1.1.next),m2.fresh⟩
 refine callT_yieldJ (lp:=lpE .ready none t dm) hl rfl ?_
 show CodeT Tryz.prog Tryz.T1 { fn:=48,round:=some lp } (codeA Tryz.f48) (putTmp (putTmp t (some 7) _) (some 8) _) [] w _
 refine codeR_codeT (x:=.mk) _ ?_
 rw[Tryz.ra48_eq]
 delta Tryz.ra48 zo zon zv
 simp -dsimp -implicitDefEqProofs (maxSteps:=2000000) (disch:=first|assumption|omega|simp only[nx];omega|(repeat apply zfp);assumption|simp only[smA];done|simp[oneCell,znp]) only[go_sem,st]
 generalize (w.push (.cells [.slice none 0 0,.slice none 0 0,.slice none 0 0,.int .i64 0,.int .i64 0] 80 w.next 0 0)).put w.next (.cells [.slice pR s.rooms.length cR,.slice pG s.gates.length cG,.slice pS s.staff.length cS,.int .i64 (g:Int),.int .i64 (r1:Int)] 80 w.next 0 0)=w2 at *
 have hl2:w2.blk lp=some (.loop (lpE .ready none t dm)):=by rw[g2.1.blk _ hb.2.2.2];exact hl
 have hm2:w2.blk dm=some (.deferred (some [])):=by rw[g2.1.blk _ (by omega)];exact hm
 refine⟨trivial,_,hl2,rfl,?_⟩
 refine codeR_codeT (x:=.mk) _ ?_
 rw[Tryz.rb48_eq]
 delta Tryz.rb48 zo zon zv
 have hn2:=g2.1.next
 have m3:=MutS.put (S:=fun j=>j=lp) g2.2 rfl (by omega) (.loop (lpE .busy none t dm))
 have O23:=m3.own (O2.keep g2.1) (by omega)
 have O53:=m3.own O5 (by omega)
 have hm3:=m3.blk dm (by omega) (by omega)
 rw[hm2]at hm3
 have hl3:(w2.put lp (.loop (lpE .busy none t dm))).blk lp=some (.loop (lpE .busy none t dm)):=by rw[AW.blk_put _ _ _ _ (Trie.in_ _) (Trie.in_ _),if_pos rfl]
 have k3:Keep lp w (w2.put lp (.loop (lpE .busy none t dm))):=(g2.1.mono (by omega)).trans (m3.keep (fun j q=>by omega) (by omega))
 have n3:(w2.put lp (.loop (lpE .busy none t dm))).next=w2.next:=AW.next_put _ _ _
 have f3:=m3.fresh
 generalize w2.put lp (.loop (lpE .busy none t dm))=w3 at *
 have hld:=loadAll O53 (n:=5) rfl (by simp[oneCell])
 simp -dsimp -implicitDefEqProofs (maxSteps:=2000000) (disch:=first|assumption|omega|simp only[nx];omega|(repeat apply zfp);assumption|simp only[smA];done|simp[oneCell,znp]) only[go_sem,e2,hld]
 apply callV_of (e:=rfl)
 . exact hrec w3 f3 k3
 rintro _ w4 ⟨rfl,g4⟩
 have O24:=O23.keep g4.1
 have hl4:w4.blk lp=some (.loop (lpE .busy none t dm)):=by rw[g4.1.blk _ (by omega)];exact hl3
 have hm4:w4.blk dm=some (.deferred (some [])):=by rw[g4.1.blk _ (by omega)];exact hm3
 have hn4:=g4.1.next
 have st4:=storeV_own (o:=0) (l:=[.slice pR s.rooms.length cR,.slice pG s.gates.length cG,.slice pS s.staff.length cS,.int .i64 (g:Int),.int .i64 (r2:Int)]) (size:=5) O24 rfl (by omega) (by simp) rfl
 rw[hcut]at st4
 have m5:=MutS.put (S:=fun j=>j=b2) g4.2 rfl O24.lt (.cells [.slice pR s.rooms.length cR,.slice pG s.gates.length cG,.slice pS s.staff.length cS,.int .i64 (g:Int),.int .i64 (r2:Int)] 80 b2 0 0)
 have O6:=O24.put [.slice pR s.rooms.length cR,.slice pG s.gates.length cG,.slice pS s.staff.length cS,.int .i64 (g:Int),.int .i64 (r2:Int)]
 have hl5:=m5.blk lp (by omega) (by omega)
 rw[hl4]at hl5
 have hm5:=m5.blk dm (by omega) (by omega)
 rw[hm4]at hm5
 have n5:(w4.put b2 (.cells [.slice pR s.rooms.length cR,.slice pG s.gates.length cG,.slice pS s.staff.length cS,.int .i64 (g:Int),.int .i64 (r2:Int)] 80 b2 0 0)).next=w4.next:=AW.next_put _ _ _
 have k5:Keep B w0 _:=((k0.trans (k3.mono (by omega))).trans (g4.1.mono (by have:=k0.next;omega))).trans (m5.keep (B:=B) (fun j q=>by omega) (by have:=k0.next;omega))
 have f5:=m5.fresh
 simp -dsimp -implicitDefEqProofs (maxSteps:=2000000) (disch:=first|assumption|omega|simp only[nx];omega|(repeat apply zfp);assumption|simp only[smA];done|simp[oneCell,znp]) only[go_sem,e2,st4]
 generalize w4.put b2 (.cells [.slice pR s.rooms.length cR,.slice pG s.gates.length cG,.slice pS s.staff.length cS,.int .i64 (g:Int),.int .i64 (r2:Int)] 80 b2 0 0)=w5 at *
 have m6:=MutS.put (S:=fun j=>j=lp) f5 rfl (by omega) (.loop (lpE .done (some .ret) t dm))
 have hm6:=m6.blk dm (by omega) (by omega)
 rw[hm5]at hm6
 refine⟨trivial,_,hl5,.inr ⟨.ret,rfl,trivial,lpE .done (some .ret) t dm,by rw[AW.blk_put _ _ _ _ (Trie.in_ _) (Trie.in_ _),if_pos rfl],rfl,rfl,m6.own O6 (by omega),hm6,k5.trans (m6.keep (fun j q=>by omega) (by have:=k0.next;omega)),m6.fresh,by omega⟩⟩
def PostE (w0:AW) (B b1 b2 dm lp:Nat) (T:List Value) (Tn:Nat × GateN->List Value):Option (Nat × GateN)->AW->Prop
 | none,w'=>(∃ lv:ALoop,w'.blk lp=some (.loop lv)/\lv.state=.ready/\lv.pending=none)/\Own w' b1 80 T/\Own w' b2 80 [.slice none 0 0,.slice none 0 0,.slice none 0 0,.int .i64 0,.int .i64 0]/\w'.blk dm=some (.deferred (some []))/\Keep B w0 w'/\Fresh w'/\lp < w'.next
 | some p,w'=>∃ lv:ALoop,w'.blk lp=some (.loop lv)/\lv.state=.done/\lv.pending=some .ret/\Own w' b2 80 (Tn p)/\w'.blk dm=some (.deferred (some []))/\Keep B w0 w'/\Fresh w'/\lp < w'.next
set_option maxHeartbeats 32000000 in
theorem end_ok {s:StrN} (hs:strB s=true) {pR pG pS:Option Addr} {cR cG cS:Nat} {g:Nat} (hg:g < 64) (hgb:∀ k,g.testBit k=true->k < s.staff.length):∀ (m r:Nat),64≤r+m->r < 64->(∀ k,r.testBit k=true->k < s.rooms.length)->∀ (w:AW),Fresh w->StrAt w pR pG pS cR cG cS s ->
    CallT Tryz.prog Tryz.T1 (.fn (.func 48) #[]) #[.agg (tourC pR pG pS cR cG cS s g r).toArray] w (Ret (.agg (tourC pR pG pS cR cG cS s g (endF s g m r)).toArray) (Grown w)):=by
 have hrl:s.rooms.length≤6:=by
  unfold strB roomsB at hs
  rw[Bool.and_eq_true,Bool.and_eq_true]at hs
  have:=(inR_iff _ _ _).1 hs.1.1;omega
 have hgall:∀ x ∈ s.gates,gateB s.rooms.length x=true:=by
  unfold strB gatesB at hs
  simp only[Bool.and_eq_true]at hs
  exact List.all_eq_true.1 hs.2.1.2
 intro m
 induction m with
 | zero=>intro r h1 h2;omega
 | succ m ih =>
  intro r h1 hr hrb w f hA
  have g1:=(Grown.refl f).push (.cells (tourC pR pG pS cR cG cS s g r) 80 w.next 0 0)
  have O1:=Own.new f 80 (tourC pR pG pS cR cG cS s g r)
  have g2:=g1.push (.cells [.slice none 0 0,.slice none 0 0,.slice none 0 0,.int .i64 0,.int .i64 0] 80 (w.next+1) 0 0)
  have O2:=Own.new g1.2 80 [.slice none 0 0,.slice none 0 0,.slice none 0 0,.int .i64 0,.int .i64 0]
  rw[AW.next_push]at O2
  have O1':=O1.push (.cells [.slice none 0 0,.slice none 0 0,.slice none 0 0,.int .i64 0,.int .i64 0] 80 (w.next+1) 0 0)
  have n2:((w.push (.cells (tourC pR pG pS cR cG cS s g r) 80 w.next 0 0)).push (.cells [.slice none 0 0,.slice none 0 0,.slice none 0 0,.int .i64 0,.int .i64 0] 80 (w.next+1) 0 0)).next=w.next+1+1:=by rw[AW.next_push,AW.next_push]
  have hl:=loadAll O1' (n:=5) rfl (by simp[tourC,oneCell])
  have hmk:=fun w' (f':Fresh w')=>steps_mk (tourC pR pG pS cR cG cS s g r) rfl (by simp[tourC,oneCell]) w' f'
  refine callT_code rfl Tryz.func48 rfl Tryz.s48_eq rfl ?_
  delta Tryz.s48 zo zt zg zh zon ztn zgn zhn zv zk
  unfold tourC at hl hmk
  unfold tourC at g1 g2 O1 O1' O2 n2
  unfold tourC
  simp -dsimp -implicitDefEqProofs (maxSteps:=2000000) (disch:=first|assumption|omega|simp only[nx];omega|(repeat apply zfp);assumption|simp only[smA];done|simp[oneCell,znp]) only[go_sem,hl]
  generalize (w.push (.cells [.slice pR s.rooms.length cR,.slice pG s.gates.length cG,.slice pS s.staff.length cS,.int .i64 (g:Int),.int .i64 (r:Int)] 80 w.next 0 0)).push (.cells [.slice none 0 0,.slice none 0 0,.slice none 0 0,.int .i64 0,.int .i64 0] 80 (w.next+1) 0 0)=w2 at *
  apply callV_of (e:=rfl)
  . exact hmk w2 g2.2
  rintro _ w3 ⟨rfl,OX,g3,n3⟩
  have hle3:WLe w2 w3:=g3.1.wle g2.2
  have gg3:=g2.trans g3
  simp -dsimp -implicitDefEqProofs (maxSteps:=2000000) (disch:=first|assumption|omega|simp only[nx];omega|(repeat apply zfp);assumption|simp only[smA];done|simp[oneCell,znp]) only[go_sem,hle3]
  refine codeT_rangeJ rfl (by simp -dsimp -implicitDefEqProofs (maxSteps:=2000000) (disch:=first|assumption|omega|simp only[nx];omega|(repeat apply zfp);assumption|simp only[smA];done|simp[oneCell,znp]) only[go_sem];rfl) ?_
  have hn3:=g3.1.next
  have gL:=fun (lv:ALoop)=>((Grown.refl g3.2).push (.deferred (some []))).push (.loop lv)
  have hnL1:(w3.push (.deferred (some []))).next=w3.next+1:=AW.next_push _ _
  have hnL:=fun (lv:ALoop)=>(AW.next_push (w3.push (.deferred (some []))) (.loop lv))
  have bL:=fun (lv:ALoop)=>(show ((w3.push (.deferred (some []))).push (.loop lv)).blk (w3.next+1)=some (.loop lv)from by rw[AW.blk_push _ _ _ (Trie.in_ _) (Trie.in_ _),if_pos hnL1.symm])
  have bM:=fun (lv:ALoop)=>(show ((w3.push (.deferred (some []))).push (.loop lv)).blk w3.next=some (.deferred (some []))from by rw[AW.blk_push _ _ _ (Trie.in_ _) (Trie.in_ _),if_neg (by omega),AW.blk_push _ _ _ (Trie.in_ _) (Trie.in_ _),if_pos rfl])
  have kL:=fun (lv:ALoop)=>gg3.1.trans ((gL lv).1.mono gg3.1.next)
  have O13:=O1'.keep g3.1
  have O23:=O2.keep g3.1
  refine (steps_ok hs hg hr hgb hrb (b1:=w2.next) (lp:=w3.next+1) (PostE w w.next w.next (w.next+1) w3.next (w3.next+1) (tourC pR pG pS cR cG cS s g r) (fun p=>tourC pR pG pS cR cG cS s g (endF s g m (nextR r p.2)))) _ (gL _).2 ((OX.push _).push _) (hA.grown (gg3.trans (gL _))) ?_ ?_).mono ?_
  . intro i gt w' hf hmem g'
    obtain⟨_,hst⟩:=firstG_is hf
    obtain⟨hm1,hm2,hm3⟩:=next_more hst (hgall _ hmem) hrl hr hrb
    have hn':=g'.1.next
    rw[hnL,hnL1]at hn'
    have hbl:=(g'.1.blk (w3.next+1) (by rw[hnL,hnL1];omega)).trans (bL _)
    refine yieldE_ok (B:=w.next) (w0:=w) (dm:=w3.next) _ (by simp -dsimp -implicitDefEqProofs (maxSteps:=2000000) (disch:=first|assumption|omega|simp only[nx];omega|(repeat apply zfp);assumption|simp only[smA];done|simp[oneCell,znp]) only[go_sem]) i w' g'.2 hbl (((O23.push _).push _).keep g'.1) (by rw[g'.1.blk _ (by rw[hnL,hnL1];omega)];exact bM _) ⟨by omega,by omega,by omega,by omega⟩ ((kL _).trans (g'.1.mono (kL _).next)) fun w'' f'' k''=>?_
    refine ih (nextR r gt) (by omega) hm2 hm3 w'' f'' (hA.grown ⟨((kL _).trans (g'.1.mono (kL _).next)).trans (k''.mono (by have:=gg3.1.next;omega)),f''⟩)
  . intro hf w' g'
    have hn':=g'.1.next
    rw[hnL,hnL1]at hn'
    exact⟨⟨_,by rw[g'.1.blk _ (by rw[hnL,hnL1];omega)];exact bL _,rfl,rfl⟩,((O13.push _).push _).keep g'.1,((O23.push _).push _).keep g'.1,by rw[g'.1.blk _ (by rw[hnL,hnL1];omega)];exact bM _,(kL _).trans (g'.1.mono (kL _).next),g'.2,by omega⟩
  rintro _ w4 hP
  have hE:endF s g (m+1) r=match firstG s g r s.gates 0 with|none=>r|some (_,gt)=>endF s g m (nextR r gt):=rfl
  cases ho:firstG s g r s.gates 0 with
  | none =>
   rw[ho]at hP hE
   obtain⟨⟨lv,hl4,hst,hpd⟩,O14,O24,hm4,k4,f4,hlt4⟩:=hP
   rw[hE]
   refine⟨lv,hl4,.inl ⟨hst,hpd,?_⟩⟩
   intro W hW
   have m5:=MutS.put (S:=fun j=>j=w3.next+1) f4 rfl hlt4 (.loop { lv with state:=.exhausted })
   rw[<- hW]at m5
   have n5:W.next=w4.next:=by rw[hW,AW.next_put]
   have O1W:=m5.own O14 (by omega)
   have O2W:=m5.own O24 (by omega)
   have hmW:=m5.blk w3.next (by omega) (by omega)
   rw[hm4]at hmW
   have kW:Keep w.next w W:=k4.trans (m5.keep (fun j q=>by omega) k4.next)
   have fW:=m5.fresh
   clear hW m5
   unfold tourC at O1W
   have hl1:=loadAll O1W (n:=5) rfl (by simp[oneCell])
   have st:=storeV_own (o:=0) (l:=[.slice pR s.rooms.length cR,.slice pG s.gates.length cG,.slice pS s.staff.length cS,.int .i64 (g:Int),.int .i64 (r:Int)]) (size:=5) O2W rfl (by omega) (by simp) rfl
   have hcut:setsL [.slice none 0 0,.slice none 0 0,.slice none 0 0,.int .i64 0,.int .i64 0] 0 [.slice pR s.rooms.length cR,.slice pG s.gates.length cG,.slice pS s.staff.length cS,.int .i64 (g:Int),.int .i64 (r:Int)]=[.slice pR s.rooms.length cR,.slice pG s.gates.length cG,.slice pS s.staff.length cS,.int .i64 (g:Int),.int .i64 (r:Int)]:=rfl
   rw[hcut]at st
   have m6:=MutS.put (S:=fun j=>j=w.next+1) fW rfl O2W.lt (.cells [.slice pR s.rooms.length cR,.slice pG s.gates.length cG,.slice pS s.staff.length cS,.int .i64 (g:Int),.int .i64 (r:Int)] 80 (w.next+1) 0 0)
   have O6:=O2W.put [.slice pR s.rooms.length cR,.slice pG s.gates.length cG,.slice pS s.staff.length cS,.int .i64 (g:Int),.int .i64 (r:Int)]
   have n6:(W.put (w.next+1) (.cells [.slice pR s.rooms.length cR,.slice pG s.gates.length cG,.slice pS s.staff.length cS,.int .i64 (g:Int),.int .i64 (r:Int)] 80 (w.next+1) 0 0)).next=W.next:=AW.next_put _ _ _
   have hm6:=m6.blk w3.next (by omega) (by omega)
   rw[hmW]at hm6
   have k6:Keep w.next w _:=kW.trans (m6.keep (B:=w.next) (fun j q=>by omega) kW.next)
   simp -dsimp -implicitDefEqProofs (maxSteps:=2000000) (disch:=first|assumption|omega|simp only[nx];omega|(repeat apply zfp);assumption|simp only[smA];done|simp[oneCell,znp]) only[go_sem,hl1,st]
   generalize W.put (w.next+1) (.cells [.slice pR s.rooms.length cR,.slice pG s.gates.length cG,.slice pS s.staff.length cS,.int .i64 (g:Int),.int .i64 (r:Int)] 80 (w.next+1) 0 0)=W6 at *
   refine Left_one hm6 ?_
   have m7:=MutS.put (S:=fun j=>j=w3.next) m6.fresh rfl (by omega) (.deferred none)
   have O7:=m7.own O6 (by omega)
   have hl7:=loadAll O7 (n:=5) rfl (by simp[oneCell])
   have k7:Keep w.next w _:=k6.trans (m7.keep (B:=w.next) (fun j q=>by omega) k6.next)
   simp -dsimp -implicitDefEqProofs (maxSteps:=2000000) (disch:=first|assumption|omega|simp only[nx];omega|(repeat apply zfp);assumption|simp only[smA];done|simp[oneCell,znp]) only[go_sem,hl7]
   exact⟨rfl,k7,m7.fresh⟩
  | some p =>
   obtain⟨i,gt⟩:=p
   rw[ho]at hP hE
   obtain⟨lv,hl4,hst,hpd,O24,hm4,k4,f4,hlt4⟩:=hP
   rw[hE]
   refine⟨lv,hl4,.inr ⟨hst,.ret,by rw[hpd];rfl,by rw[hpd];simp,?_⟩⟩
   intro W hW
   have m5:=MutS.put (S:=fun j=>j=w3.next+1) f4 rfl hlt4 (.loop { lv with state:=.exhausted })
   rw[<- hW]at m5
   have n5:W.next=w4.next:=by rw[hW,AW.next_put]
   have O2W:=m5.own O24 (by omega)
   have hmW:=m5.blk w3.next (by omega) (by omega)
   rw[hm4]at hmW
   have kW:Keep w.next w W:=k4.trans (m5.keep (fun j q=>by omega) k4.next)
   have fW:=m5.fresh
   clear hW m5
   simp -dsimp -implicitDefEqProofs (maxSteps:=2000000) (disch:=first|assumption|omega|simp only[nx];omega|(repeat apply zfp);assumption|simp only[smA];done|simp[oneCell,znp]) only[go_sem]
   refine Left_one hmW ?_
   have m7:=MutS.put (S:=fun j=>j=w3.next) fW rfl (by omega) (.deferred none)
   have O7:=m7.own O2W (by omega)
   have hl7:=loadAll O7 (n:=5) rfl (by simp[tourC,oneCell])
   have k7:Keep w.next w _:=kW.trans (m7.keep (B:=w.next) (fun j q=>by omega) kW.next)
   unfold tourC at hl7
   simp -dsimp -implicitDefEqProofs (maxSteps:=2000000) (disch:=first|assumption|omega|simp only[nx];omega|(repeat apply zfp);assumption|simp only[smA];done|simp[oneCell,znp]) only[go_sem,hl7]
   exact⟨rfl,k7,m7.fresh⟩
def Tryz.s25:SC:=(.seq (.ops false [zo 3 (.box 26 (zv 0)) 0,zo 6 (.assign (zk 0)) 3,zo 7 (.assign (zk 0)) 27]) (.seq (.ops false [zo 15 (.load 26 (zv 3)) 26,zo 16 (.move (zv 1)) 3,zo 17 (.call ⟨.value (.func 47),⟨[(zv 15),(zv 16)]⟩,⟨[26,3]⟩⟩) 81,zo 14 (.move (zv 17)) 81,zo 18 (.extract (zv 14) 0) 80,zo 19 (.extract (zv 14) 1) 27,zo 8 (.alloc 80) 0,zon (.store 80 (zv 8) (zv 18)) 0,zo 9 (.assign (zv 19)) 27]) (.seq (.seq (.ops false [zo 20 (.move (zv 9)) 27,zo 21 (.binOp .neq 27 (zv 20) (zk 0) 27) 4]) (.cond (.tmp 21) (.seq (.ops false [zo 22 (.move (zv 9)) 27,zo 6 (.assign (zk 0)) 3,zo 7 (.assign (zv 22)) 27]) .ret) .skip)) (.seq (.seq (.ops false [zo 23 (.move (zv 2)) 24,zo 24 (.call ⟨.builtin .len,⟨[(zv 23)]⟩,⟨[24]⟩⟩) 3,zo 25 (.move (zk 0)) 3]) (.block 0 (.loop (.seq (.ops false [zo 26 (.binOp .lss 3 (zv 25) (zv 24) 3) 0]) (.seq (.cond (.tmp 26) .skip (.exit 0)) (.seq (.block 1 (.seq (.ops false [zo 27 (.indexAddr 24 (zv 23) (zv 25)) 0,zo 28 (.load 3 (zv 27)) 3,zo 11 (.assign (zv 28)) 3]) (.seq (.ops false [zo 30 (.load 80 (zv 8)) 80,zo 31 (.move (zv 11)) 3,zo 32 (.call ⟨.value (.func 61),⟨[(zv 30),(zv 31)]⟩,⟨[80,3]⟩⟩) 95,zo 29 (.move (zv 32)) 95,zo 33 (.extract (zv 29) 0) 80,zo 34 (.extract (zv 29) 1) 4,zo 12 (.alloc 80) 0,zon (.store 80 (zv 12) (zv 33)) 0,zo 13 (.assign (zv 34)) 4]) (.seq (.seq (.ops false [zo 35 (.move (zv 13)) 4,zo 36 (.unOp .not 4 (zv 35)) 4]) (.cond (.tmp 36) (.seq (.ops false [zo 6 (.assign (zk 0)) 3,zo 7 (.assign (zk 42)) 27]) .ret) .skip)) (.ops false [zo 37 (.load 80 (zv 12)) 80,zon (.store 80 (zv 8) (zv 37)) 0]))))) (.ops false [zo 38 (.binOp .add 3 (zv 25) (zk 1) 3) 3,zo 25 (.move (zv 38)) 3]))))))) (.seq (.ops false [zo 39 (.fieldAddr 80 (zv 8) 2) 0,zo 40 (.load 78 (zv 39)) 78,zo 6 (.assign (zv 40)) 3,zo 7 (.assign (zk 0)) 27]) .ret)))))
noncomputable def Tryz.s61:SC :=
 (.seq
  (.ops false [
    ⟨⟨(some 2),.box 80 (.tmp 0), 0, "",⟨[]⟩,none⟩,none,false⟩,
    ⟨⟨(some 3),.box 3 (.tmp 1), 0, "",⟨[]⟩,none⟩,none,false⟩,
    ⟨⟨(some 4),.alloc 80, 0, "",⟨[]⟩,none⟩,none,false⟩,
    ⟨⟨(some 5),.alloc 4, 0, "",⟨[]⟩,none⟩,none,false⟩])
  (.seq
   (.seq
    (.ops false [
      ⟨⟨(some 8),.load 80 (.tmp 2),80, "",⟨[]⟩,none⟩,none,false⟩,
      ⟨⟨(some 9),.call ⟨.value (.func 77),⟨[(.tmp 8)]⟩,⟨[80]⟩⟩,121, "",⟨[]⟩,none⟩,none,false⟩])
    (.block 0
     (.raw (.rangeFunc (.tmp 9) ⟨[10,11]⟩ (codeA Tryz.f61) (codeB Tryz.f61)))))
   (.seq
    (.ops false [
      ⟨⟨(some 16),.build 80 ⟨[]⟩,80, "",⟨[]⟩,none⟩,none,false⟩,
      ⟨⟨none,.store 80 (.tmp 4) (.tmp 16), 0, "",⟨[]⟩,none⟩,none,false⟩,
      ⟨⟨none,.store 4 (.tmp 5) (.const (.bool false)), 0, "",⟨[]⟩,none⟩,none,false⟩])
    .ret)))
def Tryz.ra61:SC:=(.seq (.ops false [zo 6 (.assign (zv 10)) 3]) (.ops false [zo 7 (.alloc 80) 0,zon (.store 80 (zv 7) (zv 11)) 0]))
def Tryz.rb61:SC:=(.block 1 (.seq (.ops false [zo 12 (.move (zv 6)) 3,zo 13 (.load 3 (zv 3)) 3,zo 14 (.binOp .eql 3 (zv 12) (zv 13) 3) 4]) (.cond (.tmp 14) (.seq (.ops false [zo 15 (.load 80 (zv 7)) 80,zon (.store 80 (zv 4) (zv 15)) 0,zon (.store 4 (zv 5) (.const (.bool true))) 0]) .ret) .skip)))
theorem Tryz.s25_eq:Tryz.f25.body.map sOf=some Tryz.s25:=by kernel_rfl
theorem Tryz.s61_eq:Tryz.f61.body.map sOf=some Tryz.s61:=by kernel_rfl
def zeroT:List Value:=[.slice none 0 0,.slice none 0 0,.slice none 0 0,.int .i64 0,.int .i64 0]
structure JS (W0:AW) (b1 n0 dm lp:Nat) (T:List Value) (gate:Int) (lv:ALoop) (w:AW):Prop where
 o1:Own w b1 80 T
 o3:Own w (n0+1) 3 [.int .i64 gate]
 o4:Own w (n0+2) 80 zeroT
 o5:Own w (n0+3) 4 [.bool false]
 loop:w.blk lp=some (.loop lv)
 mark:w.blk dm=some (.deferred (some []))
 keep:Keep W0.next W0 w
 fresh:Fresh w
 lt:lp < w.next
 bnd:W0.next≤n0/\n0+3 < b1/\b1 < dm/\dm < lp
theorem JS.grown {W0 w w':AW} {b1 n0 dm lp:Nat} {T:List Value} {gate:Int} {lv:ALoop} (h:JS W0 b1 n0 dm lp T gate lv w) (g:Grown w w'):JS W0 b1 n0 dm lp T gate lv w':=by
 have hb:=h.bnd
 have hl:=h.lt
 have hk:=h.keep.next
 exact⟨h.o1.keep g.1,h.o3.keep g.1,h.o4.keep g.1,h.o5.keep g.1,by rw[g.1.blk _ hl];exact h.loop,by rw[g.1.blk _ (by omega)];exact h.mark,h.keep.trans (g.1.mono hk),g.2,by have:=g.1.next;omega,h.bnd⟩
theorem JS.relp {W0 w:AW} {b1 n0 dm lp:Nat} {T:List Value} {gate:Int} {lv:ALoop} (h:JS W0 b1 n0 dm lp T gate lv w) (lv2:ALoop):JS W0 b1 n0 dm lp T gate lv2 (w.put lp (.loop lv2)):=by
 have hb:=h.bnd
 have m:=MutS.put (S:=fun j=>j=lp) h.fresh rfl h.lt (.loop lv2)
 exact ⟨m.own h.o1 (by omega),m.own h.o3 (by omega),m.own h.o4 (by omega),m.own h.o5 (by omega),by rw[AW.blk_put _ _ _ _ (Trie.in_ _) (Trie.in_ _),if_pos rfl],by rw[m.blk _ (by have:=h.lt;omega) (by omega)];exact h.mark,
  h.keep.trans (m.keep (fun j q=>by have:=h.keep.next;omega) h.keep.next),m.fresh,by rw[AW.next_put];exact h.lt,h.bnd⟩
def StopS (W0:AW) (n0 dm lp:Nat) (T:List Value) (w':AW):Prop :=
 ∃ lv:ALoop,w'.blk lp=some (.loop lv)/\lv.state=.done/\lv.pending=some .ret/\Own w' (n0+2) 80 T/\Own w' (n0+3) 4 [.bool true]/\w'.blk dm=some (.deferred (some []))/\Keep W0.next W0 w'/\Fresh w'/\lp < w'.next
noncomputable abbrev lpS (s:LoopState) (pd:Option Code) (t:Tmps) (dm:Nat):ALoop:=⟨s,pd,61,t,#[10,11],codeA Tryz.f61,codeB Tryz.f61,dm⟩
theorem Tryz.ra61_eq:sOf (codeA Tryz.f61)=Tryz.ra61:=by kernel_rfl
theorem Tryz.rb61_eq:sOf (codeB Tryz.f61)=Tryz.rb61:=by kernel_rfl
set_option maxHeartbeats 16000000 in
theorem yieldS_ok {W0:AW} {b1 n0 dm lp:Nat} {T:List Value} {gate:Int} (t:Tmps) (e3:ev t (.tmp 3)=.pointer (some ⟨n0+1,0,none⟩)) (e4:ev t (.tmp 4)=.pointer (some ⟨n0+2,0,none⟩)) (e5:ev t (.tmp 5)=.pointer (some ⟨n0+3,0,none⟩)) (i:Nat) (pR pG pS:Option Addr) (kR kG kS cR cG cS:Nat) (g r:Nat) (w:AW) (h:JS W0 b1 n0 dm lp T gate (lpS .ready none t dm) w) :
    CallT Tryz.prog Tryz.T1 (.fn (.yield lp) #[]) #[.int .i64 (i:Int),.agg #[.slice pR kR cR,.slice pG kG cG,.slice pS kS cS,.int .i64 (g:Int),.int .i64 (r:Int)]] w (fun v w'=>(v=.bool true/\(i:Int) ≠ gate/\JS W0 b1 n0 dm lp T gate (lpS .ready none t dm) w') \/ (v=.bool false/\(i:Int)=gate/\StopS W0 n0 dm lp [.slice pR kR cR,.slice pG kG cG,.slice pS kS cS,.int .i64 (g:Int),.int .i64 (r:Int)] w')):=by
 have g1:=(Grown.refl h.fresh).push (.cells zeroT 80 w.next 0 0)
 have O4:=Own.new h.fresh 80 zeroT
 have st:=storeV_own (o:=0) (l:=[.slice pR kR cR,.slice pG kG cG,.slice pS kS cS,.int .i64 (g:Int),.int .i64 (r:Int)]) (size:=5) O4 rfl (by omega) (by simp[zeroT]) (by simp[oneCell])
 have hcut:setsL zeroT 0 [.slice pR kR cR,.slice pG kG cG,.slice pS kS cS,.int .i64 (g:Int),.int .i64 (r:Int)]=[.slice pR kR cR,.slice pG kG cG,.slice pS kS cS,.int .i64 (g:Int),.int .i64 (r:Int)]:=rfl
 rw[hcut]at st
 have m2:=MutS.put (S:=fun j=>j=w.next) g1.2 rfl O4.lt (.cells [.slice pR kR cR,.slice pG kG cG,.slice pS kS cS,.int .i64 (g:Int),.int .i64 (r:Int)] 80 w.next 0 0)
 have O5:=O4.put [.slice pR kR cR,.slice pG kG cG,.slice pS kS cS,.int .i64 (g:Int),.int .i64 (r:Int)]
 have g2:Grown w _:=⟨g1.1.trans (m2.keep (B:=w.next) (fun j q=>by omega) g1.1.next),m2.fresh⟩
 have n2:((w.push (.cells zeroT 80 w.next 0 0)).put w.next (.cells [.slice pR kR cR,.slice pG kG cG,.slice pS kS cS,.int .i64 (g:Int),.int .i64 (r:Int)] 80 w.next 0 0)).next=w.next+1:=by rw[AW.next_put,AW.next_push]
 have h1:=h.grown g2
 refine callT_yieldJ (lp:=lpS .ready none t dm) h.loop rfl ?_
 show CodeT Tryz.prog Tryz.T1 { fn:=61,round:=some lp } (codeA Tryz.f61) (putTmp (putTmp t (some 10) _) (some 11) _) [] w _
 refine codeR_codeT (x:=.mk) _ ?_
 rw[Tryz.ra61_eq]
 delta Tryz.ra61 zo zon zv
 unfold zeroT at st h1 O5 n2
 simp -dsimp -implicitDefEqProofs (maxSteps:=2000000) (disch:=first|assumption|omega|simp only[nx];omega|(repeat apply zfp);assumption|simp only[smA];done|simp[oneCell,znp]) only[go_sem,st]
 refine⟨trivial,_,h1.loop,rfl,?_⟩
 refine codeR_codeT (x:=.mk) _ ?_
 rw[Tryz.rb61_eq]
 delta Tryz.rb61 zo zon zv
 generalize (w.push (.cells [.slice none 0 0,.slice none 0 0,.slice none 0 0,.int .i64 0,.int .i64 0] 80 w.next 0 0)).put w.next (.cells [.slice pR kR cR,.slice pG kG cG,.slice pS kS cS,.int .i64 (g:Int),.int .i64 (r:Int)] 80 w.next 0 0)=w1 at *
 have h2:=h1.relp (lpS .busy none t dm)
 have m12:=MutS.put (S:=fun j=>j=lp) h1.fresh rfl h1.lt (.loop (lpS .busy none t dm))
 have hlt:=h.lt
 have hbd:=h.bnd
 have O2:=m12.own O5 (by omega)
 generalize w1.put lp (.loop (lpS .busy none t dm))=w2 at *
 have d3:=h2.o3.cell (o:=0) (v:=.int .i64 gate) rfl rfl
 by_cases hq:(i:Int)=gate
 case neg =>
  have hd:decide ((i:Int)=gate)=false:=decide_eq_false hq
  simp -dsimp -implicitDefEqProofs (maxSteps:=2000000) (disch:=first|assumption|omega|simp only[nx];omega|(repeat apply zfp);assumption|simp only[smA];done|simp[oneCell,znp]) only[go_sem,e3,d3,hd,hq,Nat.zero_add]
  exact⟨trivial,_,h2.loop,.inl ⟨trivial,.inl ⟨trivial,hq,h2.relp _⟩⟩⟩
 have hd:decide ((i:Int)=gate)=true:=decide_eq_true hq
 have ld:=loadAll O2 (n:=5) rfl (by simp[oneCell])
 have st4:=storeV_own (o:=0) (l:=[.slice pR kR cR,.slice pG kG cG,.slice pS kS cS,.int .i64 (g:Int),.int .i64 (r:Int)]) (size:=5) h2.o4 rfl (by omega) (by simp[zeroT]) (by simp[oneCell])
 rw[hcut]at st4
 have m4:=MutS.put (S:=fun j=>j=n0+2) h2.fresh rfl h2.o4.lt (.cells [.slice pR kR cR,.slice pG kG cG,.slice pS kS cS,.int .i64 (g:Int),.int .i64 (r:Int)] 80 (n0+2) 0 0)
 have o4':=h2.o4.put [.slice pR kR cR,.slice pG kG cG,.slice pS kS cS,.int .i64 (g:Int),.int .i64 (r:Int)]
 have n4:(w2.put (n0+2) (.cells [.slice pR kR cR,.slice pG kG cG,.slice pS kS cS,.int .i64 (g:Int),.int .i64 (r:Int)] 80 (n0+2) 0 0)).next=w2.next:=AW.next_put _ _ _
 have hlt2:=h2.lt
 generalize w2.put (n0+2) (.cells [.slice pR kR cR,.slice pG kG cG,.slice pS kS cS,.int .i64 (g:Int),.int .i64 (r:Int)] 80 (n0+2) 0 0)=w4 at *
 have o5':=m4.own h2.o5 (by omega)
 have st5:=storeV_own1 (o:=0) (v:=.bool true) o5' (by simp) rfl
 simp only[setL]at st5
 have m5:=MutS.put (S:=fun j=>j=n0+3) m4.fresh rfl o5'.lt (.cells [.bool true] 4 (n0+3) 0 0)
 have o5'':=o5'.put [.bool true]
 have n5:(w4.put (n0+3) (.cells [.bool true] 4 (n0+3) 0 0)).next=w4.next:=AW.next_put _ _ _
 have hk2:=h2.keep.next
 simp -dsimp -implicitDefEqProofs (maxSteps:=2000000) (disch:=first|assumption|omega|simp only[nx];omega|(repeat apply zfp);assumption|simp only[smA];done|simp[oneCell,znp]) only[go_sem,e3,e4,e5,d3,hd,ld,st4,st5,Nat.zero_add]
 generalize w4.put (n0+3) (.cells [.bool true] 4 (n0+3) 0 0)=w5 at *
 have hl5:w5.blk lp=some (.loop (lpS .busy none t dm)):=by rw[m5.blk _ (by omega) (by omega),m4.blk _ (by omega) (by omega)];exact h2.loop
 have hm5:w5.blk dm=some (.deferred (some [])):=by rw[m5.blk _ (by omega) (by omega),m4.blk _ (by omega) (by omega)];exact h2.mark
 have k5:Keep W0.next W0 w5:=(h2.keep.trans (m4.keep (fun j q=>by omega) hk2)).trans (m5.keep (fun j q=>by omega) (by omega))
 have m6:=MutS.put (S:=fun j=>j=lp) m5.fresh rfl (by omega) (.loop (lpS .done (some .ret) t dm))
 have hm6:=m6.blk dm (by omega) (by omega)
 rw[hm5]at hm6
 exact⟨trivial,_,hl5,.inr ⟨.ret,rfl,.inr ⟨trivial,hq,lpS .done (some .ret) t dm,by rw[AW.blk_put _ _ _ _ (Trie.in_ _) (Trie.in_ _),if_pos rfl],rfl,rfl,m6.own (m5.own o4' (by omega)) (by omega),m6.own o5'' (by omega),hm6,k5.trans (m6.keep (fun j q=>by omega) (by omega)),m6.fresh,by rw[AW.next_put];omega⟩⟩⟩
def stepG (s:StrN) (g r:Nat) (gate:Int):Option GateN:=if 0≤gate then match s.gates[gate.toNat]? with
 | some gt=>if stepB s g r gt=true then some gt else none
 | none=>none
 else none
theorem stepG_at {s:StrN} {g r:Nat} {gate:Int} {i:Nat} (h:i < s.gates.length) (he:(i:Int)=gate) (hb:stepB s g r s.gates[i]=true):stepG s g r gate=some s.gates[i]:=by
 subst he
 unfold stepG
 rw[if_pos (by omega),Int.toNat_natCast,List.getElem?_eq_getElem h]
 simp only[hb];rfl
theorem stepG_no {s:StrN} {g r:Nat} {gate:Int} (h:∀ k,(hk:k < s.gates.length)->(k:Int)=gate->stepB s g r s.gates[k]=false):stepG s g r gate=none:=by
 unfold stepG
 split
 case isFalse=>rfl
 rename_i h0
 split
 case h_2=>rfl
 rename_i gt hg
 obtain⟨hk,rfl⟩:=List.getElem?_eq_some_iff.1 hg
 rw[if_neg (by rw[h gate.toNat hk (by omega)];intro z;cases z)]
def stepV (pR pG pS:Option Addr) (cR cG cS:Nat) (s:StrN) (g r:Nat):Option GateN->Value
 | some gt=>.tuple #[.agg (tourC pR pG pS cR cG cS s g (nextR r gt)).toArray,.bool true]
 | none=>.tuple #[.agg zeroT.toArray,.bool false]
set_option maxHeartbeats 32000000 in
theorem step_okV {s:StrN} (hs:strB s=true) {pR pG pS:Option Addr} {cR cG cS:Nat} {g r:Nat} (hg:g < 64) (hgb:∀ k,g.testBit k=true->k < s.staff.length) (hr:r < 64) (hrb:∀ k,r.testBit k=true->k < s.rooms.length) (gate:Int) (w:AW) (f:Fresh w) (hA:StrAt w pR pG pS cR cG cS s) :
    CallT Tryz.prog Tryz.T1 (.fn (.func 61) #[]) #[.agg (tourC pR pG pS cR cG cS s g r).toArray,.int .i64 gate] w (Ret (stepV pR pG pS cR cG cS s g r (stepG s g r gate)) (Grown w)):=by
 have g1:=(Grown.refl f).push (.cells (tourC pR pG pS cR cG cS s g r) 80 w.next 0 0)
 have O1:=Own.new f 80 (tourC pR pG pS cR cG cS s g r)
 have g2:=g1.push (.cells [.int .i64 gate] 3 (w.next+1) 0 0)
 have O2:=Own.new g1.2 3 [.int .i64 gate]
 have g3:=g2.push (.cells [.slice none 0 0,.slice none 0 0,.slice none 0 0,.int .i64 0,.int .i64 0] 80 (w.next+1+1) 0 0)
 have O3:=Own.new g2.2 80 [.slice none 0 0,.slice none 0 0,.slice none 0 0,.int .i64 0,.int .i64 0]
 have g4:=g3.push (.cells [.bool false] 4 (w.next+1+1+1) 0 0)
 have O4:=Own.new g3.2 4 [.bool false]
 simp only[AW.next_push]at O2 O3 O4
 have O1':=((O1.push (.cells [.int .i64 gate] 3 (w.next+1) 0 0)).push (.cells [.slice none 0 0,.slice none 0 0,.slice none 0 0,.int .i64 0,.int .i64 0] 80 (w.next+1+1) 0 0)).push (.cells [.bool false] 4 (w.next+1+1+1) 0 0)
 have O2':=(O2.push (.cells [.slice none 0 0,.slice none 0 0,.slice none 0 0,.int .i64 0,.int .i64 0] 80 (w.next+1+1) 0 0)).push (.cells [.bool false] 4 (w.next+1+1+1) 0 0)
 have O3':=O3.push (.cells [.bool false] 4 (w.next+1+1+1) 0 0)
 have n4:((((w.push (.cells (tourC pR pG pS cR cG cS s g r) 80 w.next 0 0)).push (.cells [.int .i64 gate] 3 (w.next+1) 0 0)).push (.cells [.slice none 0 0,.slice none 0 0,.slice none 0 0,.int .i64 0,.int .i64 0] 80 (w.next+1+1) 0 0)).push (.cells [.bool false] 4 (w.next+1+1+1) 0 0)).next=w.next+1+1+1+1:=by simp only[AW.next_push]
 have hl:=loadAll O1' (n:=5) rfl (by simp[tourC,oneCell])
 have hmk:=fun w' (f':Fresh w')=>steps_mk (tourC pR pG pS cR cG cS s g r) rfl (by simp[tourC,oneCell]) w' f'
 refine callT_code rfl Tryz.func61 rfl Tryz.s61_eq rfl ?_
 delta Tryz.s61 zo zt zg zh zon ztn zgn zhn zv zk
 unfold tourC at hl hmk
 unfold tourC at g1 g2 g3 g4 O1 O1' O2 O2' O3 O3' O4 n4
 unfold tourC
 simp -dsimp -implicitDefEqProofs (maxSteps:=2000000) (disch:=first|assumption|omega|simp only[nx];omega|(repeat apply zfp);assumption|simp only[smA];done|simp[oneCell,znp]) only[go_sem,hl]
 generalize (((w.push (.cells [.slice pR s.rooms.length cR,.slice pG s.gates.length cG,.slice pS s.staff.length cS,.int .i64 (g:Int),.int .i64 (r:Int)] 80 w.next 0 0)).push (.cells [.int .i64 gate] 3 (w.next+1) 0 0)).push (.cells [.slice none 0 0,.slice none 0 0,.slice none 0 0,.int .i64 0,.int .i64 0] 80 (w.next+1+1) 0 0)).push (.cells [.bool false] 4 (w.next+1+1+1) 0 0)=w2 at *
 apply callV_of (e:=rfl)
 . exact hmk w2 g4.2
 rintro _ w3 ⟨rfl,OX,g5,n3⟩
 have hle3:WLe w2 w3:=g5.1.wle g4.2
 have gg3:=g4.trans g5
 simp -dsimp -implicitDefEqProofs (maxSteps:=2000000) (disch:=first|assumption|omega|simp only[nx];omega|(repeat apply zfp);assumption|simp only[smA];done|simp[oneCell,znp]) only[go_sem,hle3]
 refine codeT_rangeJ rfl (by simp -dsimp -implicitDefEqProofs (maxSteps:=2000000) (disch:=first|assumption|omega|simp only[nx];omega|(repeat apply zfp);assumption|simp only[smA];done|simp[oneCell,znp]) only[go_sem];rfl) ?_
 have hn3:=g5.1.next
 have gL:=fun (lv:ALoop)=>((Grown.refl g5.2).push (.deferred (some []))).push (.loop lv)
 have hnL1:(w3.push (.deferred (some []))).next=w3.next+1:=AW.next_push _ _
 have hnL:=fun (lv:ALoop)=>(AW.next_push (w3.push (.deferred (some []))) (.loop lv))
 have bL:=fun (lv:ALoop)=>(show ((w3.push (.deferred (some []))).push (.loop lv)).blk (w3.next+1)=some (.loop lv)from by rw[AW.blk_push _ _ _ (Trie.in_ _) (Trie.in_ _),if_pos hnL1.symm])
 have bM:=fun (lv:ALoop)=>(show ((w3.push (.deferred (some []))).push (.loop lv)).blk w3.next=some (.deferred (some []))from by rw[AW.blk_push _ _ _ (Trie.in_ _) (Trie.in_ _),if_neg (by omega),AW.blk_push _ _ _ (Trie.in_ _) (Trie.in_ _),if_pos rfl])
 have kL:=fun (lv:ALoop)=>gg3.1.trans ((gL lv).1.mono gg3.1.next)
 have key:∀ T0:Tmps,ev T0 (.tmp 3)=.pointer (some ⟨w.next+1,0,none⟩)->ev T0 (.tmp 4)=.pointer (some ⟨w.next+2,0,none⟩)->ev T0 (.tmp 5)=.pointer (some ⟨w.next+3,0,none⟩)->CallT Tryz.prog Tryz.T1 (.fn (.func 109) #[.pointer (some ⟨w2.next,0,none⟩)]) #[.func (.yield (w3.next+1)) #[] #[]] ((w3.push (.deferred (some []))).push (.loop (lpS .ready none T0 w3.next))) (fun _ w'=>(stepG s g r gate=none/\JS w w2.next w.next w3.next (w3.next+1) (tourC pR pG pS cR cG cS s g r) gate (lpS .ready none T0 w3.next) w') \/ ∃ gt,stepG s g r gate=some gt/\StopS w w.next w3.next (w3.next+1) (tourC pR pG pS cR cG cS s g (nextR r gt)) w'):=by
  intro T0 e3 e4 e5
  refine stepsJ_ok (pR:=pR) (pG:=pG) (pS:=pS) (cR:=cR) (cG:=cG) (cS:=cS) hs hg hr hgb hrb (b1:=w2.next) (lp:=w3.next+1)
   (fun i w'=>(∀ k,(hk:k < s.gates.length)->k < i->(k:Int)=gate->stepB s g r s.gates[k]=false)/\JS w w2.next w.next w3.next (w3.next+1) (tourC pR pG pS cR cG cS s g r) gate (lpS .ready none T0 w3.next) w')
   (fun w'=>(stepG s g r gate=none/\JS w w2.next w.next w3.next (w3.next+1) (tourC pR pG pS cR cG cS s g r) gate (lpS .ready none T0 w3.next) w') \/ ∃ gt,stepG s g r gate=some gt/\StopS w w.next w3.next (w3.next+1) (tourC pR pG pS cR cG cS s g (nextR r gt)) w') _ ?_ ?_ ?_ ?_ ?_ ?_
  . rintro i w' ⟨_,h⟩
    exact⟨h.o1,hA.grown ⟨h.keep,h.fresh⟩,h.fresh⟩
  . rintro i w' w'' ⟨h1,h⟩ g'
    exact⟨h1,h.grown g'⟩
  . refine⟨fun k _ q=>by omega,⟨(OX.push _).push _,((O2'.keep g5.1).push _).push _,((O3'.keep g5.1).push _).push _,((O4.keep g5.1).push _).push _,bL _,bM _,kL _,(gL _).2,by rw[hnL,hnL1];omega,by omega⟩⟩
  · rintro i hi w' hf ⟨h1,h⟩
    refine⟨fun k hk hki he=>?_,h⟩
    rcases Nat.lt_or_ge k i with q|q
    . exact h1 k hk q he
    . obtain rfl:k=i:=by omega
      exact hf
  · rintro i hi w' hf ⟨h1,h⟩
    refine (yieldS_ok _ e3 e4 e5 i pR pG pS s.rooms.length s.gates.length s.staff.length cR cG cS g (nextR r s.gates[i]) w' h).mono ?_
    rintro v w'' (⟨rfl,hne,h'⟩|⟨rfl,he,hP⟩)
    · refine .inl ⟨rfl,fun k hk hki hek=>?_,h'⟩
      rcases Nat.lt_or_ge k i with q|q
      . exact h1 k hk q hek
      . obtain rfl:k=i:=by omega
        exact absurd hek hne
    . exact .inr ⟨rfl,.inr ⟨_,stepG_at hi he hf,hP⟩⟩
  . rintro w' ⟨h1,h⟩
    exact .inl ⟨stepG_no fun k hk he=>h1 k hk hk he,h⟩
 refine (key _ (by simp -dsimp -implicitDefEqProofs (maxSteps:=2000000) (disch:=first|assumption|omega|simp only[nx];omega|(repeat apply zfp);assumption|simp only[smA];done|simp[oneCell,znp]) only[go_sem]) (by simp -dsimp -implicitDefEqProofs (maxSteps:=2000000) (disch:=first|assumption|omega|simp only[nx];omega|(repeat apply zfp);assumption|simp only[smA];done|simp[oneCell,znp]) only[go_sem]) (by simp -dsimp -implicitDefEqProofs (maxSteps:=2000000) (disch:=first|assumption|omega|simp only[nx];omega|(repeat apply zfp);assumption|simp only[smA];done|simp[oneCell,znp]) only[go_sem])).mono ?_
 rintro _ w4 hP
 rcases hP with ⟨hn,h⟩|⟨gt,hsm,lv,hl4,hst,hpd,O44,O54,hm4,k4,f4,hlt4⟩
 . rw[hn]
   unfold stepV
   refine⟨_,h.loop,.inl ⟨rfl,rfl,?_⟩⟩
   intro W hW
   obtain⟨lvX,hX⟩:∃ x:ALoop,W=w4.put (w3.next+1) (.loop x):=⟨_,hW⟩
   have m5:=MutS.put (S:=fun j=>j=w3.next+1) h.fresh rfl h.lt (.loop lvX)
   rw[<- hX]at m5
   have n5:W.next=w4.next:=by rw[hX,AW.next_put]
   have hlt:=h.lt
   have O4W:=m5.own h.o4 (by omega)
   have O5W:=m5.own h.o5 (by omega)
   have hmW:=m5.blk w3.next (by omega) (by omega)
   rw[h.mark]at hmW
   have kW:Keep w.next w W:=h.keep.trans (m5.keep (fun j q=>by omega) h.keep.next)
   have fW:=m5.fresh
   clear hW hX m5
   unfold zeroT at O4W
   have st:=storeV_own (o:=0) (l:=[.slice none 0 0,.slice none 0 0,.slice none 0 0,.int .i64 0,.int .i64 0]) (size:=5) O4W rfl (by omega) (by simp) rfl
   have hcut:setsL [.slice none 0 0,.slice none 0 0,.slice none 0 0,.int .i64 0,.int .i64 0] 0 [.slice none 0 0,.slice none 0 0,.slice none 0 0,.int .i64 0,.int .i64 0]=[.slice none 0 0,.slice none 0 0,.slice none 0 0,.int .i64 0,.int .i64 0]:=rfl
   rw[hcut]at st
   have m6:=MutS.put (S:=fun j=>j=w.next+2) fW rfl O4W.lt (.cells [.slice none 0 0,.slice none 0 0,.slice none 0 0,.int .i64 0,.int .i64 0] 80 (w.next+2) 0 0)
   have O6:=O4W.put [.slice none 0 0,.slice none 0 0,.slice none 0 0,.int .i64 0,.int .i64 0]
   have n6:(W.put (w.next+2) (.cells [.slice none 0 0,.slice none 0 0,.slice none 0 0,.int .i64 0,.int .i64 0] 80 (w.next+2) 0 0)).next=W.next:=AW.next_put _ _ _
   have O56:=m6.own O5W (by omega)
   have st7:=storeV_own1 (o:=0) (v:=.bool false) O56 (by simp) rfl
   simp only[setL]at st7
   have m7:=MutS.put (S:=fun j=>j=w.next+3) m6.fresh rfl O56.lt (.cells [.bool false] 4 (w.next+3) 0 0)
   have O7:=O56.put [.bool false]
   have O67:=m7.own O6 (by omega)
   have hm7:=m7.blk w3.next (by rw[n6];omega) (by omega)
   rw[m6.blk w3.next (by omega) (by omega),hmW]at hm7
   have k7:Keep w.next w _:=(kW.trans (m6.keep (B:=w.next) (fun j q=>by omega) kW.next)).trans (m7.keep (B:=w.next) (fun j q=>by omega) (by rw[n6];exact kW.next))
   have n7:=AW.next_put (W.put (w.next+2) (.cells [.slice none 0 0,.slice none 0 0,.slice none 0 0,.int .i64 0,.int .i64 0] 80 (w.next+2) 0 0)) (w.next+3) (.cells [.bool false] 4 (w.next+3) 0 0)
   simp -dsimp -implicitDefEqProofs (maxSteps:=2000000) (disch:=first|assumption|omega|simp only[nx];omega|(repeat apply zfp);assumption|simp only[smA];done|simp[oneCell,znp]) only[go_sem,st,st7]
   refine Left_one hm7 ?_
   have m8:=MutS.put (S:=fun j=>j=w3.next) m7.fresh rfl (by omega) (.deferred none)
   have l8:=loadAll (m8.own O67 (by omega)) (n:=5) rfl (by simp[oneCell])
   have d8:=(m8.own O7 (by omega)).cell (o:=0) (v:=.bool false) rfl rfl
   have k8:Keep w.next w _:=k7.trans (m8.keep (B:=w.next) (fun j q=>by omega) (by omega))
   simp -dsimp -implicitDefEqProofs (maxSteps:=2000000) (disch:=first|assumption|omega|simp only[nx];omega|(repeat apply zfp);assumption|simp only[smA];done|simp[oneCell,znp]) only[go_sem,l8,d8,Nat.zero_add]
   exact⟨rfl,k8,m8.fresh⟩
 . rw[hsm]
   unfold stepV
   refine⟨lv,hl4,.inr ⟨hst,.ret,by rw[hpd];rfl,by rw[hpd];simp,?_⟩⟩
   intro W hW
   have m5:=MutS.put (S:=fun j=>j=w3.next+1) f4 rfl hlt4 (.loop { lv with state:=.exhausted })
   rw[<- hW]at m5
   have n5:W.next=w4.next:=by rw[hW,AW.next_put]
   have O4W:=m5.own O44 (by omega)
   have O5W:=m5.own O54 (by omega)
   have hmW:=m5.blk w3.next (by omega) (by omega)
   rw[hm4]at hmW
   have kW:Keep w.next w W:=k4.trans (m5.keep (fun j q=>by omega) k4.next)
   have fW:=m5.fresh
   clear hW m5
   simp -dsimp -implicitDefEqProofs (maxSteps:=2000000) (disch:=first|assumption|omega|simp only[nx];omega|(repeat apply zfp);assumption|simp only[smA];done|simp[oneCell,znp]) only[go_sem]
   refine Left_one hmW ?_
   have m7:=MutS.put (S:=fun j=>j=w3.next) fW rfl (by omega) (.deferred none)
   have l7:=loadAll (m7.own O4W (by omega)) (n:=5) rfl (by simp[tourC,oneCell])
   have d7:=(m7.own O5W (by omega)).cell (o:=0) (v:=.bool true) rfl rfl
   have k7:Keep w.next w _:=kW.trans (m7.keep (B:=w.next) (fun j q=>by omega) kW.next)
   unfold tourC at l7
   simp -dsimp -implicitDefEqProofs (maxSteps:=2000000) (disch:=first|assumption|omega|simp only[nx];omega|(repeat apply zfp);assumption|simp only[smA];done|simp[oneCell,znp]) only[go_sem,l7,d7,Nat.zero_add]
   exact⟨rfl,k7,m7.fresh⟩
theorem bit_lt {x n k:Nat} (h:x < 2 ^ n) (hk:x.testBit k=true):k < n:=by
 rcases Nat.lt_or_ge k n with q|q
 . exact q
 . have:=Nat.testBit_lt_two_pow (x:=x) (i:=k) (Nat.lt_of_lt_of_le h (Nat.pow_le_pow_right (by omega) q))
   rw[this]at hk;cases hk
theorem lenN_bit {x k:Nat} (h:x.testBit k=true):k < lenN x:=by
 have hx:x ≠ 0:=by intro e;subst e;simp at h
 unfold lenN
 rw[if_neg hx]
 refine bit_lt (n:=Nat.log2 x+1) ?_ h
 exact (Nat.log2_lt (n:=x) hx).1 (by omega)
theorem bld164 (a b c:Value) (x y:Int):bldQ [(0,3),(3,1),(4,1)] [.slice none 0 0,.slice none 0 0,.slice none 0 0,.int .i64 0,.int .i64 0] [(0,.agg #[a,b,c]),(1,.int .i64 x),(2,.int .i64 y)]=some (.agg #[a,b,c,.int .i64 x,.int .i64 y]):=by rfl
theorem Tryz.fd80 (t:Tmps) (w:AW) (o:Operand) (a b c d e:Value) (h:ev t o=.agg #[a,b,c,d,e]) (he:oneCell e=true):fast (prg Tryz.prog) t w (.field 80 o 2)=some e:=by
 simp only[fast,h]
 rfl
def endR (s:StrN) (g r:Nat):Nat:=endF s g 64 r
set_option maxHeartbeats 8000000 in
theorem begin_ok (s:StrN) (pR pG pS:Option Addr) (cR cG cS:Nat) (g:Nat) (w:AW) (f:Fresh w) :
    CallT Tryz.prog Tryz.T1 (.fn (.func 76) #[]) #[.agg (strC pR pG pS cR cG cS s).toArray,.int .i64 (g:Int)] w (Ret (.agg (tourC pR pG pS cR cG cS s g 1).toArray) (Grown w)):=by
 have g1:=(Grown.refl f).push (.cells (strC pR pG pS cR cG cS s) 26 w.next 0 0)
 have O1:=Own.new f 26 (strC pR pG pS cR cG cS s)
 have g2:=g1.push (.cells [.slice none 0 0,.slice none 0 0,.slice none 0 0,.int .i64 0,.int .i64 0] 80 (w.next+1) 0 0)
 have O2:=Own.new g1.2 80 [.slice none 0 0,.slice none 0 0,.slice none 0 0,.int .i64 0,.int .i64 0]
 rw[AW.next_push]at O2
 have O1':=O1.push (.cells [.slice none 0 0,.slice none 0 0,.slice none 0 0,.int .i64 0,.int .i64 0] 80 (w.next+1) 0 0)
 unfold strC at *
 have hl:=loadAll O1' (n:=3) rfl (by simp[oneCell])
 have st:=storeV_own (o:=0) (l:=[.slice pR s.rooms.length cR,.slice pG s.gates.length cG,.slice pS s.staff.length cS,.int .i64 (g:Int),.int .i64 1]) (size:=5) O2 rfl (by omega) (by simp) rfl
 have hcut:setsL [.slice none 0 0,.slice none 0 0,.slice none 0 0,.int .i64 0,.int .i64 0] 0 [.slice pR s.rooms.length cR,.slice pG s.gates.length cG,.slice pS s.staff.length cS,.int .i64 (g:Int),.int .i64 1]=[.slice pR s.rooms.length cR,.slice pG s.gates.length cG,.slice pS s.staff.length cS,.int .i64 (g:Int),.int .i64 1]:=rfl
 rw[hcut]at st
 have m3:=MutS.put (S:=fun j=>j=w.next+1) g2.2 rfl O2.lt (.cells [.slice pR s.rooms.length cR,.slice pG s.gates.length cG,.slice pS s.staff.length cS,.int .i64 (g:Int),.int .i64 1] 80 (w.next+1) 0 0)
 have O3:=O2.put [.slice pR s.rooms.length cR,.slice pG s.gates.length cG,.slice pS s.staff.length cS,.int .i64 (g:Int),.int .i64 1]
 have hl3:=loadAll O3 (n:=5) rfl (by simp[oneCell])
 have g3:Keep w.next w _:=g2.1.trans (m3.keep (B:=w.next) (fun j q=>by omega) g2.1.next)
 unfold tourC
 refine callT_code rfl Tryz.func76 rfl Tryz.s76_eq rfl ?_
 delta Tryz.s76 zo zon zv zk
 simp -dsimp -implicitDefEqProofs (maxSteps:=2000000) (disch:=first|assumption|omega|simp only[nx];omega|(repeat apply zfp);assumption|simp only[smA];done|simp[oneCell,znp]) only[go_sem,hl,bld164,st,hl3]
 exact⟨rfl,g3,m3.fresh⟩
theorem endF_in {s:StrN} (hs:strB s=true) {g:Nat}:∀ (m r:Nat),r < 64->(∀ k,r.testBit k=true->k < s.rooms.length)->endF s g m r < 64/\∀ k,(endF s g m r).testBit k=true->k < s.rooms.length:=by
 have hrl:s.rooms.length≤6:=by
  unfold strB roomsB at hs
  rw[Bool.and_eq_true,Bool.and_eq_true]at hs
  have:=(inR_iff _ _ _).1 hs.1.1;omega
 have hgall:∀ x ∈ s.gates,gateB s.rooms.length x=true:=by
  unfold strB gatesB at hs
  simp only[Bool.and_eq_true]at hs
  exact List.all_eq_true.1 hs.2.1.2
 intro m
 induction m with
 | zero=>exact fun r h1 h2=>⟨h1,h2⟩
 | succ m ih =>
  intro r h1 h2
  rw[endF]
  cases ho:firstG s g r s.gates 0 with
  | none=>exact⟨h1,h2⟩
  | some p =>
   obtain⟨i,gt⟩:=p
   obtain⟨hm,hst⟩:=firstG_is ho
   obtain⟨_,q2,q3⟩:=next_more hst (hgall _ hm) hrl h1 h2
   exact ih _ q2 q3
theorem one_bits {s:StrN} (hs:strB s=true):∀ k,(1:Nat).testBit k=true->k < s.rooms.length:=fun k hk=>by
 have h1:1≤s.rooms.length:=by
  unfold strB roomsB at hs
  rw[Bool.and_eq_true,Bool.and_eq_true]at hs
  have:=(inR_iff _ _ _).1 hs.1.1;omega
 have:=bit_lt (n:=1) (x:=1) (by omega) hk
 omega
end Go.Proofs

namespace Go.Proofs
open Go Go.RowKit Go.Sim
end Go.Proofs
