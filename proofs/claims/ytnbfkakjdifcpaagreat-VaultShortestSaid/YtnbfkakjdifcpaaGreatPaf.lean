/- This program: its code, contracts, numbers, part 6. -/
import Derived.Test.YtnbfkakjdifcpaaGreatPae
import Derived.Test.YtnbfkakjdifcpaaGreatPac
import Derived.Test.YtnbfkakjdifcpaaGreatPad
import Derived.Test.YtnbfkakjdifcpaaGreatPaa
import Derived.Test.YtnbfkakjdifcpaaGreatNa
set_option linter.unusedVariables false
set_option linter.unusedSimpArgs false
namespace Go.Proofs
open Go Go.RowKit Go.Sim
set_option maxRecDepth 100000
theorem Tryz.bs24x1 (t:Tmps) (l:List (Nat × Operand)):makes (prg Tryz.prog) t (.buildSlice 24 1 ⟨l⟩)=bsQ 3 1 1 [.int .i64 0] (l.map fun p=>(p.1,ev t p.2)):=makes_bs Tryz.ty24 Tryz.ty3 rfl (by kernel_rfl)
attribute [go_sem] Tryz.bs24x1
def reachB (s:StrN) (goals g:Nat):Bool:=!decide (endR s g 1 &&& goals=0)
def roomE (s:StrN) (r:Int):Int:=if strB s=true then (if inR 0 r ((s.rooms.length:Int) - 1)=true then 0 else 7) else 40
theorem roomE_ok {s:StrN} {r:Int} (h:roomE s r=0):strB s=true/\∃ k:Nat,r=(k:Int)/\k < s.rooms.length:=by
 unfold roomE at h
 split at h
 case isFalse=>cases h
 rename_i hs
 split at h
 case isFalse=>cases h
 rename_i hr
 have:=(inR_iff _ _ _).1 hr
 exact⟨hs,r.toNat,by omega,by omega⟩
set_option maxHeartbeats 8000000 in
theorem checkRoom_ok (s:StrN) (pR pG pS:Option Addr) (cR cG cS:Nat) (r:Int) (w:AW) (f:Fresh w) (hA:StrAt w pR pG pS cR cG cS s) :
    CallT Tryz.prog Tryz.T1 (.fn (.func 58) #[]) #[.agg (strC pR pG pS cR cG cS s).toArray,.int .i64 r] w (Ret (.int .i64 (roomE s r)) (Grown w)):=by
 have g1:=(Grown.refl f).push (.cells (strC pR pG pS cR cG cS s) 26 w.next 0 0)
 have O1:=Own.new f 26 (strC pR pG pS cR cG cS s)
 have hl1:=loadAll O1 (n:=3) rfl (by simp[strC,oneCell])
 have hch:=fun w' (g':Grown w w')=>CheckV_ok s pR pG pS cR cG cS w' g'.2 (hA.grown g')
 have hak:roomE s r=if strB s=true then (if inR 0 r ((s.rooms.length:Int) - 1)=true then 0 else 7) else 40:=rfl
 unfold strC at *
 refine callT_code rfl Tryz.func58 rfl Tryz.s58_eq rfl ?_
 delta Tryz.s58 zo zv zk
 simp -dsimp -implicitDefEqProofs (maxSteps:=2000000) (disch:=first|assumption|omega|simp only[nx];omega|(repeat apply zfp);assumption|simp only[smA];done|simp[oneCell,znp]) only[go_sem,hl1]
 generalize w.push (.cells [.slice pR s.rooms.length cR,.slice pG s.gates.length cG,.slice pS s.staff.length cS] 26 w.next 0 0)=w1 at *
 apply callV_of (e:=rfl)
 . exact hch w1 g1
 rintro _ w2 ⟨rfl,g2⟩
 have gg2:=g1.trans g2
 have O2:=O1.keep g2.1
 have c0:=O2.cell (o:=0) (v:=.slice pR s.rooms.length cR) rfl rfl
 cases hs:strB s with
 | false =>
  rw[hs,if_neg (by intro z;cases z)]at hak
  have hE:strE s=40:=by unfold strE;rw[hs];rfl
  have h40:¬ (40:Int)=0:=by omega
  simp -dsimp -implicitDefEqProofs (maxSteps:=2000000) (disch:=first|assumption|omega|simp only[nx];omega|(repeat apply zfp);assumption|simp only[smA];done|simp[oneCell,znp]) only[go_sem,hE,h40]
  exact⟨by rw[hak],gg2⟩
 | true =>
 rw[hs,if_pos rfl]at hak
 have hE:strE s=0:=by unfold strE;rw[hs];rfl
 have hrl:=(str_rooms hs).2
 simp -dsimp -implicitDefEqProofs (maxSteps:=2000000) (disch:=first|assumption|omega|simp only[nx];omega|(repeat apply zfp);assumption|simp only[smA];done|simp[oneCell,znp]) only[go_sem,hE,c0,Nat.zero_add]
 apply callV_of (e:=rfl)
 . exact isIndex_ok r (s.rooms.length:Int) (by omega) w2
 rintro _ _ ⟨rfl,rfl⟩
 cases hx:inR 0 r ((s.rooms.length:Int) - 1) with
 | false =>
  rw[hx,if_neg (by intro z;cases z)]at hak
  simp -dsimp -implicitDefEqProofs (maxSteps:=2000000) (disch:=first|assumption|omega|simp only[nx];omega|(repeat apply zfp);assumption|simp only[smA];done|simp[oneCell,znp]) only[go_sem,hx]
  exact⟨by rw[hak],gg2⟩
 | true =>
  rw[hx,if_pos rfl]at hak
  simp -dsimp -implicitDefEqProofs (maxSteps:=2000000) (disch:=first|assumption|omega|simp only[nx];omega|(repeat apply zfp);assumption|simp only[smA];done|simp[oneCell,znp]) only[go_sem,hx]
  exact⟨by rw[hak],gg2⟩
def nilQ:Value->Option Value
 | .slice none _ _=>some (.bool true)
 | .slice (some _) _ _=>some (.bool false)
 | _=>none
theorem Tryz.eqn24 (t:Tmps) (w:AW) (x:Operand) (r:TypeId):fast (prg Tryz.prog) t w (.binOp .eql 24 x (.const (.slice none 0 0)) r)=nilQ (ev t x):=by
 have e:ev t (.const (.slice none 0 0))=.slice none 0 0:=rfl
 simp only[fast,e,Tryz.ty24]
 cases ev t x with
 | slice p n c=>cases p <;> rfl
 | _=>rfl
theorem nilQ_none (n c:Nat):nilQ (.slice none n c)=some (.bool true):=rfl
theorem nilQ_some (a:Addr) (n c:Nat):nilQ (.slice (some a) n c)=some (.bool false):=rfl
theorem Tryz.eqs24 (p q:Option Addr) (a b c d:Nat):eqQ Tryz.prog .eql 24 (.slice p a b) (.slice q c d)=none:=rfl
attribute [go_sem] Tryz.eqn24 nilQ_none nilQ_some Tryz.eqs24
theorem nats_len (l:List Nat):(natsL l).length=l.length:=by unfold natsL;rw[List.length_map]
set_option maxHeartbeats 8000000 in
theorem clone_ok (l:List Nat) (v:Value) (w:AW) (f:Fresh w) (h:WayAt w v l) (hl:l.length≤1000) :
    CallT Tryz.prog Tryz.T1 (.fn (.func 88) #[]) #[v] w (fun r w'=>AOwn w.next w' 3 1 r l.length ((natsL l).flatMap icells)/\Grown w w'):=by
 rcases h with ⟨rfl,rfl⟩|⟨h1,h⟩
 . refine callT_code rfl Tryz.func88 rfl Tryz.s88_eq rfl ?_
   delta Tryz.s88 zo zv
   simp -dsimp -implicitDefEqProofs (maxSteps:=2000000) (disch:=first|assumption|omega|simp only[nx];omega|(repeat apply zfp);assumption|simp only[smA];done|simp[oneCell,znp]) only[go_sem]
   exact⟨.inl ⟨rfl,rfl,rfl⟩,.refl f⟩
 have hnl:(natsL l).length=l.length:=nats_len l
 obtain⟨p,cap,rfl,_⟩:=id h.open
 obtain ⟨a,rfl⟩:∃ a,p=some a:=by
  obtain⟨p',n',c',e1,e2,e3,e4,e5⟩:=id h
  injection e1 with q1 q2 q3
  obtain⟨bb,o,e,_⟩:=e5 (by rw[<- q2,hnl];omega)
  exact⟨_,by rw[q1,e]⟩
 have g:=(Grown.refl f).push (.cells [] 3 w.next 0 0)
 have hn:=arr_new (h.grown g) icells_len (Nat.le_refl _)
 obtain⟨v',w',happ,hk,hf,hor⟩:=append_empty (b:=w.next) (e':=3) Tryz.ty24 Tryz.ty3 rfl (by omega) (blk_push_top _ _) g.2 rfl hn (by rw[icells_flat_len,Nat.mul_one]) (icells_ones (natsL l)) (by omega) (by omega)
 refine callT_code rfl Tryz.func88 rfl Tryz.s88_eq rfl ?_
 delta Tryz.s88 zo zv
 simp -dsimp -implicitDefEqProofs (maxSteps:=2000000) (disch:=first|assumption|omega|simp only[nx];omega|(repeat apply zfp);assumption|simp only[smA];done|simp[oneCell,znp]) only[go_sem,happ]
 rcases hor with ⟨q,rfl,rfl⟩|hA
 . omega
 . refine⟨?_,g.trans ⟨hk,hf⟩⟩
   have:AOwn w.next w' 3 1 v' (natsL l).length ((natsL l).flatMap icells):=hA.weak (by rw[AW.next_push];omega)
   rw[hnl]at this
   exact this
def MarksAt (b0:Nat) (w:AW) (M:List Nat):Prop:=M.Nodup/\∀ m ∈ M,m < w.next/\b0+7 < m/\w.blk m=some (.deferred (some []))
theorem MarksAt.same {b0:Nat} {w w':AW} {M:List Nat} (h:MarksAt b0 w M) (hn:w.next≤w'.next) (hb:∀ j,j < w.next->b0+7 < j->w.blk j=some (.deferred (some []))->w'.blk j=w.blk j):MarksAt b0 w' M :=
 ⟨h.1,fun m hm=>by
   obtain⟨q1,q2,q3⟩:=h.2 m hm
   exact⟨by omega,q2,by rw[hb m q1 q2 q3];exact q3⟩⟩
theorem MarksAt.grown {b0:Nat} {w w':AW} {M:List Nat} (h:MarksAt b0 w M) (g:Grown w w'):MarksAt b0 w' M:=h.same g.1.next fun j hj _ _=>g.1.blk j hj
theorem MarksAt.put {b0 k:Nat} {w w':AW} {M:List Nat} (h:MarksAt b0 w M) (m:MutS (fun j=>j=k) w w') (hk:w.blk k ≠ some (.deferred (some []))):MarksAt b0 w' M :=
 h.same m.next fun j hj _ hd=>m.blk j hj fun z=>hk (by rw[<- z];exact hd)
theorem MarksAt.vis {b0:Nat} {w w':AW} {M:List Nat} (h:MarksAt b0 w M) (v:VisW b0 w w'):MarksAt b0 w' M:=h.same v.next fun j hj hb _=>v.blk j hj (by omega) (by omega)
theorem own_notD {w:AW} {k:Nat} {e:TypeId} {c:List Value} (h:Own w k e c):w.blk k ≠ some (.deferred (some [])):=fun z=>by
 rw[h.blk]at z;cases z
theorem left_marks {rs:List ResultVar} {e:Ex} {t:Tmps} {Q:Value->AW->Prop}:∀ (M:List Nat) (w:AW),Fresh w->M.Nodup->(∀ m ∈ M,m < w.next/\w.blk m=some (.deferred (some [])))->(∀ W,MutS (fun j=>j ∈ M) w W->Sim.Left (P:=Tryz.prog) rs e t [] W Q)->Sim.Left (P:=Tryz.prog) rs e t (M.map DI.mark) w Q
 | [],w,f,_,_,h=>h w (.refl f)
 | m :: M,w,f,hd,hm,h=>by
  obtain⟨q1,q2⟩:=hm m List.mem_cons_self
  rw[List.map_cons]
  refine Left_one q2 ?_
  have m1:=MutS.put (S:=fun j=>j=m) f rfl q1 (.deferred none)
  rw[List.nodup_cons]at hd
  refine left_marks M _ m1.fresh hd.2 (fun k hk=>?_) fun W hW=>h W ?_
  . obtain⟨z1,z2⟩:=hm k (List.mem_cons_of_mem _ hk)
    exact⟨by rw[AW.next_put];exact z1,by rw[m1.blk k z1 fun z=>hd.1 (by rw[<- z];exact hk)];exact z2⟩
  . exact (m1.mono fun j q=>by rw[q];exact List.mem_cons_self).trans (hW.mono fun j q=>List.mem_cons_of_mem _ q) (Within.refl _ _)
structure JY (W0:AW) (b0:Nat) (pR pG pS:Option Addr) (cR cG cS:Nat) (s:StrN) (g room:Nat) (b1 b9 lp:Nat) (M:List Nat) (p:List Nat × Nat) (xw:Value) (lv:ALoop) (S:List Nat) (Q:Ways) (w:AW):Prop where
 bfs:BfsAt W0 b0 pR pG pS cR cG cS s g room S Q w
 o1:Own w b1 80 (tourC pR pG pS cR cG cS s g p.2)
 o9:Own w b9 132 (tourC pR pG pS cR cG cS s g p.2++[xw])
 way:WayAt w xw p.1
 loop:w.blk lp=some (.loop lv)
 marks:MarksAt b0 w M
 lt:lp < w.next
 bnd:b0+7 < b1/\b0+7 < b9/\b0+7 < lp/\b1 ≠ lp/\b9 ≠ lp
section
variable {W0:AW} {b0:Nat} {pR pG pS:Option Addr} {cR cG cS:Nat} {s:StrN} {g room:Nat} {b1 b9 lp:Nat} {M:List Nat} {p:List Nat × Nat} {xw:Value} {lv:ALoop} {S:List Nat} {Q:Ways} {w w':AW}
theorem JY.grown (h:JY W0 b0 pR pG pS cR cG cS s g room b1 b9 lp M p xw lv S Q w) (k:Grown w w'):JY W0 b0 pR pG pS cR cG cS s g room b1 b9 lp M p xw lv S Q w' :=
 ⟨h.bfs.grown k,h.o1.keep k.1,h.o9.keep k.1,h.way.grown k,by rw[k.1.blk _ h.lt];exact h.loop,h.marks.grown k,by have:=k.1.next;have:=h.lt;omega,h.bnd⟩
theorem noInt_loop {k:Nat} (h:w.blk k=some (.loop lv)):NoInt w k:=fun o q x z=>by
 simp only[AW.cell?,h]at z;cases z
theorem loop_not6 {k:Nat} (h:w.blk k=some (.loop lv)):∀ c e r o,w.blk k ≠ some (.cells c e r o 6):=fun c e r o z=>by
 rw[h]at z;cases z
theorem JY.relp (h:JY W0 b0 pR pG pS cR cG cS s g room b1 b9 lp M p xw lv S Q w) (lv2:ALoop):JY W0 b0 pR pG pS cR cG cS s g room b1 b9 lp M p xw lv2 S Q (w.put lp (.loop lv2)):=by
 have hb:=h.bnd
 have m:=MutS.put (S:=fun j=>j=lp) h.bfs.fresh rfl h.lt (.loop lv2)
 exact⟨h.bfs.put m (noInt_loop h.loop) (loop_not6 h.loop) (by omega),m.own h.o1 (by omega),m.own h.o9 (by omega),h.way.put m (noInt_loop h.loop),by rw[AW.blk_put _ _ _ _ (Trie.in_ _) (Trie.in_ _),if_pos rfl],h.marks.put m (by rw[h.loop];intro z;cases z),by rw[AW.next_put];exact h.lt,h.bnd⟩
theorem JY.vis {S':List Nat} {Q':Ways} (h:JY W0 b0 pR pG pS cR cG cS s g room b1 b9 lp M p xw lv S Q w) (hb:BfsAt W0 b0 pR pG pS cR cG cS s g room S' Q' w') (v:VisW b0 w w'):JY W0 b0 pR pG pS cR cG cS s g room b1 b9 lp M p xw lv S' Q' w':=by
 have hn:=h.bnd
 exact⟨hb,v.own _ _ _ h.o1 (by omega) (by omega),v.own _ _ _ h.o9 (by omega) (by omega),v.way _ _ h.way,by rw[v.blk _ h.lt (by omega) (by omega)];exact h.loop,h.marks.vis v,by have:=v.next;have:=h.lt;omega,h.bnd⟩
end
def StopY (W0:AW) (b0 lp:Nat) (M:List Nat) (l:List Nat) (w':AW):Prop :=
 ∃ (lv:ALoop) (x:Value),w'.blk lp=some (.loop lv)/\lv.state=.done/\lv.pending=some (.exit 0)/\Own w' (b0+2) 24 [x]/\WayAt w' x l/\Own w' (b0+3) 4 [.bool true]/\MarksAt b0 w' M/\Keep W0.next W0 w'/\Fresh w'/\lp < w'.next/\b0+7 < lp
noncomputable abbrev lpY (s:LoopState) (pd:Option Code) (t:Tmps) (dm:Nat):ALoop:=⟨s,pd,59,t,#[33,34],codeA Tryz.f59,codeB Tryz.f59,dm⟩
theorem Tryz.ra59_eq:sOf (codeA Tryz.f59)=Tryz.ra59:=by kernel_rfl
theorem Tryz.rb59_eq:sOf (codeB Tryz.f59)=Tryz.rb59:=by kernel_rfl
theorem way_snoc {w:AW} {B i:Nat} {v:Value} {l:List Nat} (h:AOwn B w 3 1 v (l.length+1) ((natsL l).flatMap icells++[.int .i64 (i:Nat)])) (hl:l.length≤1000):WayAt w v (l++[i]):=by
 refine .inr ⟨by rw[List.length_append,List.length_singleton];omega,?_⟩
 have e:natsL (l++[i])=natsL l++[(i:Int)]:=nats_snoc l i
 have hlen:(natsL (l++[i])).length=l.length+1:=by rw[nats_len,List.length_append];rfl
 have hc:(natsL (l++[i])).flatMap icells=(natsL l).flatMap icells++[.int .i64 (i:Nat)]:=by rw[e,List.flatMap_append];rfl
 rw[<- hc,<- hlen]at h
 exact h.arrR icells_len (by omega)
set_option maxHeartbeats 32000000 in
theorem yieldY_ok {W0:AW} {b0:Nat} {pR pG pS:Option Addr} {cR cG cS:Nat} {s:StrN} {g room:Nat} {b1 b9 dm lp:Nat} {M:List Nat} {p:List Nat × Nat} {xw:Value} {S:List Nat} {Q:Ways} (hroom:room≤8) (hpl:p.1.length≤100) (hQ:Q.length≤1000)
    (t:Tmps) (e3:ev t (.tmp 3)=.pointer (some ⟨b0+1,0,none⟩)) (e4:ev t (.tmp 4)=.pointer (some ⟨b0+2,0,none⟩)) (e5:ev t (.tmp 5)=.pointer (some ⟨b0+3,0,none⟩)) (e8:ev t (.tmp 8)=.pointer (some ⟨b0+7,0,none⟩)) (e9:ev t (.tmp 9)=.pointer (some ⟨b9,0,none⟩))
    (i r:Nat) (hr:r < 64) (w:AW) (h:JY W0 b0 pR pG pS cR cG cS s g room b1 b9 lp M p xw (lpY .ready none t dm) S Q w) :
    CallT Tryz.prog Tryz.T1 (.fn (.yield lp) #[]) #[.int .i64 (i:Int),.agg (tourC pR pG pS cR cG cS s g r).toArray] w (fun v w'=>(v=.bool true/\r.testBit room=false/\JY W0 b0 pR pG pS cR cG cS s g room b1 b9 lp M p xw (lpY .ready none t dm) (seeS S r) (seeQ S Q (p.1++[i],r)) w') \/ (v=.bool false/\r.testBit room=true/\StopY W0 b0 lp M (p.1++[i]) w')):=by
 have f:=h.bfs.fresh
 have g1:=(Grown.refl f).push (.cells [.slice none 0 0,.slice none 0 0,.slice none 0 0,.int .i64 0,.int .i64 0] 80 w.next 0 0)
 have O4:=Own.new f 80 [.slice none 0 0,.slice none 0 0,.slice none 0 0,.int .i64 0,.int .i64 0]
 have st:=storeV_own (o:=0) (l:=tourC pR pG pS cR cG cS s g r) (size:=5) O4 rfl (by omega) (by simp[tourC]) (by simp[tourC,oneCell])
 have hcut:setsL [.slice none 0 0,.slice none 0 0,.slice none 0 0,.int .i64 0,.int .i64 0] 0 (tourC pR pG pS cR cG cS s g r)=tourC pR pG pS cR cG cS s g r:=rfl
 rw[hcut]at st
 have m2:=MutS.put (S:=fun j=>j=w.next) g1.2 rfl O4.lt (.cells (tourC pR pG pS cR cG cS s g r) 80 w.next 0 0)
 have O5:=O4.put (tourC pR pG pS cR cG cS s g r)
 have g2:Grown w _:=⟨g1.1.trans (m2.keep (B:=w.next) (fun j q=>by omega) g1.1.next),m2.fresh⟩
 have n2:((w.push (.cells [.slice none 0 0,.slice none 0 0,.slice none 0 0,.int .i64 0,.int .i64 0] 80 w.next 0 0)).put w.next (.cells (tourC pR pG pS cR cG cS s g r) 80 w.next 0 0)).next=w.next+1:=by rw[AW.next_put,AW.next_push]
 have h1:=h.grown g2
 refine callT_yieldJ (lp:=lpY .ready none t dm) h.loop rfl ?_
 show CodeT Tryz.prog Tryz.T1 { fn:=59,round:=some lp } (codeA Tryz.f59) (putTmp (putTmp t (some 33) _) (some 34) _) [] w _
 refine codeR_codeT (x:=.mk) _ ?_
 rw[Tryz.ra59_eq]
 delta Tryz.ra59 zo zon zv
 unfold tourC at st O5
 unfold tourC
 unfold tourC at h1 n2
 simp -dsimp -implicitDefEqProofs (maxSteps:=2000000) (disch:=first|assumption|omega|simp only[nx];omega|(repeat apply zfp);assumption|simp only[smA];done|simp[oneCell,znp]) only[go_sem,st]
 refine⟨trivial,_,h1.loop,rfl,?_⟩
 refine codeR_codeT (x:=.mk) _ ?_
 rw[Tryz.rb59_eq]
 delta Tryz.rb59 zo zon zv
 have hlt:=h.lt
 have hbd:=h.bnd
 generalize (w.push (.cells [.slice none 0 0,.slice none 0 0,.slice none 0 0,.int .i64 0,.int .i64 0] 80 w.next 0 0)).put w.next (.cells [.slice pR s.rooms.length cR,.slice pG s.gates.length cG,.slice pS s.staff.length cS,.int .i64 (g:Int),.int .i64 (r:Int)] 80 w.next 0 0)=w1 at *
 have h2:=h1.relp (lpY .busy none t dm)
 have m12:=MutS.put (S:=fun j=>j=lp) h1.bfs.fresh rfl h1.lt (.loop (lpY .busy none t dm))
 have O2:=m12.own O5 (by omega)
 generalize w1.put lp (.loop (lpY .busy none t dm))=w2 at *
 have c95:=h2.o9.cell (o:=5) (v:=xw) rfl h2.way.one
 have hcl:=fun w' (g':Grown w2 w')=>clone_ok p.1 xw w' g'.2 (h2.way.grown g') (by omega)
 simp -dsimp -implicitDefEqProofs (maxSteps:=2000000) (disch:=first|assumption|omega|simp only[nx];omega|(repeat apply zfp);assumption|simp only[smA];done|simp[oneCell,znp]) only[go_sem,e9,c95,Nat.zero_add]
 apply callV_of (e:=rfl)
 . exact hcl w2 (.refl h2.bfs.fresh)
 rintro vc w3 ⟨hA3,g3⟩
 have hn3:=g3.1.next
 obtain⟨v4,w4,happ,hA4,hk4,f4,_⟩:=append_one (e':=3) Tryz.ty24 Tryz.ty3 rfl (by omega) (by omega) hA3 g3.2 hn3 (new:=[.int .i64 (i:Int)]) rfl (by intro y hy;simp at hy;subst hy;rfl) (by omega)
 have g4:Grown w2 w4:=⟨g3.1.trans hk4,f4⟩
 have h4:=h2.grown g4
 have hx4:WayAt w4 v4 (p.1++[i]):=way_snoc hA4 (by omega)
 have O24:=O2.keep g4.1
 have c4:=O24.cell (o:=4) (v:=.int .i64 (r:Int)) rfl rfl
 have d3:=h4.bfs.oR.cell (o:=0) (v:=.int .i64 (room:Int)) rfl rfl
 simp -dsimp -implicitDefEqProofs (maxSteps:=2000000) (disch:=first|assumption|omega|simp only[nx];omega|(repeat apply zfp);assumption|simp only[smA];done|simp[oneCell,znp]) only[go_sem,e3,e9,happ,c4,d3,Nat.zero_add]
 apply callV_of (e:=rfl)
 . exact has_ok r room (by omega) hroom w4
 rintro _ _ ⟨rfl,rfl⟩
 cases hbit:r.testBit room with
 | false =>
  have l4:=loadAll O24 (n:=5) rfl (by simp[oneCell])
  have cV:=h4.bfs.oV.cell (o:=0) (v:=.func (.func 87) #[] #[.pointer (some ⟨b0+6,0,none⟩),.pointer (some ⟨b0+4,0,none⟩)]) rfl rfl
  have hvis:=visit_ok (l:=p.1++[i]) (r:=r) (x:=v4) w4 h4.bfs hx4 hQ
  unfold tourC at hvis
  simp -dsimp -implicitDefEqProofs (maxSteps:=2000000) (disch:=first|assumption|omega|simp only[nx];omega|(repeat apply zfp);assumption|simp only[smA];done|simp[oneCell,znp]) only[go_sem,e8,hbit,l4,cV,Nat.zero_add]
  apply callV_of (e:=rfl)
  . exact hvis
  rintro _ w5 ⟨hb5,vis5⟩
  have h5:=h4.vis hb5 vis5
  simp -dsimp -implicitDefEqProofs (maxSteps:=2000000) (disch:=first|assumption|omega|simp only[nx];omega|(repeat apply zfp);assumption|simp only[smA];done|simp[oneCell,znp]) only[go_sem,hbit]
  exact⟨trivial,_,h5.loop,.inl ⟨trivial,.inl ⟨trivial,trivial,h5.relp _⟩⟩⟩
 | true =>
  have st5:=storeV_own1 (o:=0) (v:=v4) h4.bfs.oF (by simp) hx4.one
  simp only[setL]at st5
  have m5:=MutS.put (S:=fun j=>j=b0+2) h4.bfs.fresh rfl h4.bfs.oF.lt (.cells [v4] 24 (b0+2) 0 0)
  have oF5:=h4.bfs.oF.put [v4]
  have oO5:=m5.own h4.bfs.oO (by omega)
  have hx5:=hx4.put m5 (noInt_own h4.bfs.oF fun v hv q y=>by rw[List.mem_singleton.1 hv];intro z;cases z)
  have mk5:=h4.marks.put m5 (own_notD h4.bfs.oF)
  have hl5:(w4.put (b0+2) (.cells [v4] 24 (b0+2) 0 0)).blk lp=some (.loop (lpY .busy none t dm)):=by rw[m5.blk _ h4.lt (by omega)];exact h4.loop
  have hb0:=h4.bfs.bnd
  have hkn:=h4.bfs.keep.next
  have k5:Keep W0.next W0 (w4.put (b0+2) (.cells [v4] 24 (b0+2) 0 0)):=h4.bfs.keep.trans (m5.keep (fun j q=>by omega) hkn)
  have n5:(w4.put (b0+2) (.cells [v4] 24 (b0+2) 0 0)).next=w4.next:=AW.next_put _ _ _
  have hlt4:=h4.lt
  generalize hw5:w4.put (b0+2) (.cells [v4] 24 (b0+2) 0 0)=w5 at *
  have st6:=storeV_own1 (o:=0) (v:=.bool true) oO5 (by simp) rfl
  simp only[setL]at st6
  have m6:=MutS.put (S:=fun j=>j=b0+3) m5.fresh rfl oO5.lt (.cells [.bool true] 4 (b0+3) 0 0)
  have oO6:=oO5.put [.bool true]
  have oF6:=m6.own oF5 (by omega)
  have hx6:=hx5.put m6 (noInt_own oO5 fun v hv q y=>by rw[List.mem_singleton.1 hv];intro z;cases z)
  have mk6:=mk5.put m6 (own_notD oO5)
  have hl6:(w5.put (b0+3) (.cells [.bool true] 4 (b0+3) 0 0)).blk lp=some (.loop (lpY .busy none t dm)):=by rw[m6.blk _ (by omega) (by omega)];exact hl5
  have k6:Keep W0.next W0 (w5.put (b0+3) (.cells [.bool true] 4 (b0+3) 0 0)):=k5.trans (m6.keep (fun j q=>by omega) (by omega))
  have n6:(w5.put (b0+3) (.cells [.bool true] 4 (b0+3) 0 0)).next=w5.next:=AW.next_put _ _ _
  simp -dsimp -implicitDefEqProofs (maxSteps:=2000000) (disch:=first|assumption|omega|simp only[nx];omega|(repeat apply zfp);assumption|simp only[smA];done|simp[oneCell,znp]) only[go_sem,e4,e5,hbit,st5,hw5,st6,Nat.zero_add]
  generalize w5.put (b0+3) (.cells [.bool true] 4 (b0+3) 0 0)=w6 at *
  have m7:=MutS.put (S:=fun j=>j=lp) m6.fresh rfl (by omega) (.loop (lpY .done (some (.exit 0)) t dm))
  exact⟨trivial,_,hl6,.inr ⟨.exit 0,rfl,.inr ⟨trivial,trivial,lpY .done (some (.exit 0)) t dm,v4,by rw[AW.blk_put _ _ _ _ (Trie.in_ _) (Trie.in_ _),if_pos rfl],rfl,rfl,m7.own oF6 (by omega),hx6.put m7 (noInt_loop hl6),m7.own oO6 (by omega),mk6.put m7 (by rw[hl6];intro z;cases z),k6.trans (m7.keep (fun j q=>by omega) (by omega)),m7.fresh,by rw[AW.next_put];omega,by omega⟩⟩⟩
end Go.Proofs

namespace Go.Proofs
open Go Go.RowKit Go.Sim
set_option maxRecDepth 100000
def WayV (w:AW) (v:Value):Option (List Nat × Nat)->Prop
 | some q=>∃ x,v=.tuple #[x,.bool true]/\WayAt w x q.1
 | none=>v=.tuple #[.slice none 0 0,.bool false]
theorem str_room1 {s:StrN} (hs:strB s=true):1≤s.rooms.length:=by
 unfold strB roomsB at hs
 rw[Bool.and_eq_true,Bool.and_eq_true]at hs
 have:=(inR_iff _ _ _).1 hs.1.1;omega
theorem tail_begin {s:StrN} (hs:strB s=true) (g:Nat):tailF s g s.rooms.length 0=([([],1)]:Ways).length+tailF s g (s.rooms.length - (0+1)) (0+1):=by
 have:=str_room1 hs
 rw[show s.rooms.length=(s.rooms.length - 1)+1 from by omega,tailF]
 rfl
def PostY (W0:AW) (b0:Nat) (pR pG pS:Option Addr) (cR cG cS:Nat) (s:StrN) (g room b1 b9 lp n:Nat) (M:List Nat) (A B:Ways) (p:List Nat × Nat) (xw:Value) (lv:ALoop) (w':AW):Prop :=
 (∃ S Q,MidW s g room n A p B s.gates.length S Q/\JY W0 b0 pR pG pS cR cG cS s g room b1 b9 lp M p xw lv S Q w') \/ (∃ q,wayTo s g room s.rooms.length=some q/\StopY W0 b0 lp M q.1 w')
set_option maxHeartbeats 32000000 in
theorem roundY_ok {W0:AW} {b0:Nat} {pR pG pS:Option Addr} {cR cG cS:Nat} {s:StrN} (hs:strB s=true) {g room:Nat} (hg:g < 64) (hgb:∀ k,g.testBit k=true->k < s.staff.length) (hroom:room≤8) (hA:StrAt W0 pR pG pS cR cG cS s) {b1 b9 dm lp n:Nat} {M:List Nat} {A B:Ways} {p:List Nat × Nat} {xw:Value} {S:List Nat} {Q:Ways} (hn:n < s.rooms.length)
    (t:Tmps) (e3:ev t (.tmp 3)=.pointer (some ⟨b0+1,0,none⟩)) (e4:ev t (.tmp 4)=.pointer (some ⟨b0+2,0,none⟩)) (e5:ev t (.tmp 5)=.pointer (some ⟨b0+3,0,none⟩)) (e8:ev t (.tmp 8)=.pointer (some ⟨b0+7,0,none⟩)) (e9:ev t (.tmp 9)=.pointer (some ⟨b9,0,none⟩))
    (w:AW) (hm:MidW s g room n A p B 0 S Q) (h:JY W0 b0 pR pG pS cR cG cS s g room b1 b9 lp M p xw (lpY .ready none t dm) S Q w) :
    CallT Tryz.prog Tryz.T1 (.fn (.func 109) #[.pointer (some ⟨b1,0,none⟩)]) #[.func (.yield lp) #[] #[]] w (fun _ w'=>PostY W0 b0 pR pG pS cR cG cS s g room b1 b9 lp n M A B p xw (lpY .ready none t dm) w'):=by
 obtain⟨hz,hr,hrb⟩:=level_size hs (l:=p.1) (r:=p.2) hm.mem
 have hl:=(level_road (l:=p.1) (r:=p.2).1 hm.mem).1
 have hrl:=(str_rooms hs).2
 refine stepsJ_ok (pR:=pR) (pG:=pG) (pS:=pS) (cR:=cR) (cG:=cG) (cS:=cS) hs hg hr hgb hrb (b1:=b1) (lp:=lp)
  (fun i w'=>i≤s.gates.length/\∃ S Q,MidW s g room n A p B i S Q/\JY W0 b0 pR pG pS cR cG cS s g room b1 b9 lp M p xw (lpY .ready none t dm) S Q w')
  (fun w'=>PostY W0 b0 pR pG pS cR cG cS s g room b1 b9 lp n M A B p xw (lpY .ready none t dm) w') _ ?_ ?_ ?_ ?_ ?_ ?_
 . rintro i w' ⟨_,S',Q',_,h'⟩
   exact⟨h'.o1,hA.grown ⟨h'.bfs.keep,h'.bfs.fresh⟩,h'.bfs.fresh⟩
 . rintro i w' w'' ⟨hi,S',Q',hm',h'⟩ g'
   exact⟨hi,S',Q',hm',h'.grown g'⟩
 . exact⟨Nat.zero_le _,S,Q,hm,h⟩
 . rintro i hi w' hf ⟨_,S',Q',hm',h'⟩
   exact⟨by omega,S',Q',hm'.skip hi hf,h'⟩
 . rintro i hi w' hf ⟨_,S',Q',hm',h'⟩
   have hgt:=(str_gates hs).2 _ (List.getElem_mem hi)
   obtain⟨_,hr2,_⟩:=next_more hf hgt hrl hr hrb
   have hsm:=hm'.small hs (Nat.le_of_lt hi)
   refine (yieldY_ok hroom (by omega) (by omega) t e3 e4 e5 e8 e9 i (nextR p.2 s.gates[i]) hr2 w' h').mono ?_
   rintro v w'' (⟨rfl,hno,h''⟩|⟨rfl,hyes,hP⟩)
   . exact .inl ⟨rfl,by omega,_,_,hm'.add hs hi hf hno,h''⟩
   . exact .inr ⟨rfl,.inr ⟨_,hm'.found hs hi hf hyes,hP⟩⟩
 . rintro w' ⟨_,S',Q',hm',h'⟩
   exact .inl ⟨S',Q',hm',h'⟩
theorem pop_queue {B:Nat} {pR pG pS:Option Addr} {cR cG cS:Nat} {s:StrN} {g:Nat} {w:AW} {v:Value} {p:List Nat × Nat} {Q:Ways} (h:QAt B pR pG pS cR cG cS s g w v (p :: Q)) :
    ∃ b o v' xw,v=.slice (some ⟨b,o,none⟩) (Q.length+1) (Q.length+1)/\WayAt w xw p.1/\b < w.next/\loadV w true 6 (.pointer (some ⟨b,o,none⟩))=some (.agg (tourC pR pG pS cR cG cS s g p.2++[xw]).toArray)/\sliceV w 6 v (some (.int .i64 1)) none=some v'/\oneCell v'=true/\QAt B pR pG pS cR cG cS s g w v' Q:=by
 obtain⟨xs,h1,h2,h3⟩:=h
 cases xs with
 | nil=>cases h1
 | cons y xs =>
  rw[List.map_cons]at h1
  injection h1 with e1 e2
  have hxl:xs.length=Q.length:=by rw[<- e2,List.length_map]
  obtain⟨b,o,v',rfl,hb1,hb2,hc,hsl,h4⟩:=h2.cut
  have hdr:((y :: xs).flatMap (stopC pR pG pS cR cG cS s g)).drop 6=xs.flatMap (stopC pR pG pS cR cG cS s g):=by
   rw[List.flatMap_cons,List.drop_append_of_le_length (by rw[stopC_len];omega),List.drop_of_length_le (by rw[stopC_len];omega),List.nil_append]
  rw[hdr]at h4
  have hw:=h3 y List.mem_cons_self
  rw[e1]at hw
  have hce:∀ i v,(tourC pR pG pS cR cG cS s g p.2++[y.2])[i]? = some v->w.cell? ⟨b,o+i,none⟩=some v:=fun i v hv=>by
   refine hc i v ?_
   have hi:i < 6:=by
    rcases Nat.lt_or_ge i 6 with q|q
    . exact q
    . rw[List.getElem?_eq_none (by simpa [tourC] using q)]at hv;cases hv
   rw[List.flatMap_cons,List.getElem?_append_left (by rw[stopC_len];exact hi)]
   unfold stopC
   rw[e1];exact hv
  have a0:=hce 0 _ rfl
  have a1:=hce 1 _ rfl
  have a2:=hce 2 _ rfl
  have a3:=hce 3 _ rfl
  have a4:=hce 4 _ rfl
  have a5:=hce 5 _ rfl
  refine⟨b,o,v',y.2,by rw[<- hxl],hw,hb2,?_,hsl,?_,xs,e2,h4,fun z hz=>h3 z (List.mem_cons_of_mem _ hz)⟩
  . rw[Nat.add_zero]at a0
    simp only[loadV,aCells,a0,a1,a2,a3,a4,a5]
    rfl
  . obtain⟨q,c,rfl⟩:=h4.one
    rfl
theorem sliceV_same {w w':AW} {size b o n k:Nat} {lo hi:Option Value} (h:w'.blk b=w.blk b):sliceV w' size (.slice (some ⟨b,o,none⟩) n k) lo hi=sliceV w size (.slice (some ⟨b,o,none⟩) n k) lo hi:=by
 simp only[sliceV,h]
theorem Tryz.sl129 (t:Tmps) (w:AW) (x lo:Operand):fast (prg Tryz.prog) t w (.slice 129 x (some lo) none none)=sliceV w 6 (ev t x) (some (ev t lo)) none:=by
 simp only[fast,Tryz.ty129,Tryz.ty132]
 rfl
theorem ev_const (t:Tmps) (v:Value):ev t (.const v)=v:=rfl
attribute [go_sem] Tryz.sl129
theorem wle_same {w:AW} {b:Nat} {e:TypeId} {c:List Value} (h:Own w b e c):WLe w (w.put b (.cells c e b 0 0)):=fun j y hj=>by
 rw[AW.blk_put _ _ _ _ (Trie.in_ _) (Trie.in_ _)]
 by_cases q:j=b
 . rw[if_pos q,<- h.blk,<- q];exact hj
 . rw[if_neg q];exact hj
theorem BfsAt.setq {W0:AW} {b0:Nat} {pR pG pS:Option Addr} {cR cG cS:Nat} {s:StrN} {g room:Nat} {S:List Nat} {Q Q':Ways} {w:AW} {v':Value} (h:BfsAt W0 b0 pR pG pS cR cG cS s g room S Q w) (hq:QAt W0.next pR pG pS cR cG cS s g w v' Q'):BfsAt W0 b0 pR pG pS cR cG cS s g room S Q' (w.put (b0+4) (.cells [v'] 129 (b0+4) 0 0))/\MutS (fun j=>j=b0+4) w (w.put (b0+4) (.cells [v'] 129 (b0+4) 0 0))/\NoInt w (b0+4):=by
 obtain⟨vq,oq,qa⟩:=h.q
 have m:=MutS.put (S:=fun j=>j=b0+4) h.fresh rfl oq.lt (.cells [v'] 129 (b0+4) 0 0)
 have hb:=h.bnd
 have hk:=h.keep.next
 have no:NoInt w (b0+4):=noInt_own oq fun v hv q x=>by
  rw[List.mem_singleton.1 hv]
  obtain⟨xs,_,q2,_⟩:=qa
  obtain⟨p,c,rfl⟩:=q2.one
  intro z;cases z
 exact⟨⟨m.own h.oR (by omega),m.own h.oF (by omega),m.own h.oO (by omega),⟨v',oq.put [v'],hq.put m no (own_not6 oq)⟩,h.map.other m (by omega),m.own h.oS (by omega),m.own h.oV (by omega),h.keep.trans (m.keep (fun j q=>by omega) hk),m.fresh,hb⟩,m,no⟩
set_option maxHeartbeats 64000000 in
theorem wayV_ok {s:StrN} (hs:strB s=true) {pR pG pS:Option Addr} {cR cG cS:Nat} {g:Nat} (hg:g < 64) (hgb:∀ k,g.testBit k=true->k < s.staff.length) {room:Nat} (hroom:room < s.rooms.length) {r:Nat} (hr1:r=1) (w:AW) (f:Fresh w) (hA:StrAt w pR pG pS cR cG cS s) :
    CallT Tryz.prog Tryz.T1 (.fn (.func 59) #[]) #[.agg (tourC pR pG pS cR cG cS s g r).toArray,.int .i64 (room:Int)] w (fun v w'=>Grown w w'/\WayV w' v (wayTo s g room s.rooms.length)):=by
 have hrl:=(str_rooms hs).2
 have g1:=(Grown.refl f).push (.cells (tourC pR pG pS cR cG cS s g r) 80 w.next 0 0)
 have O1:=Own.new f 80 (tourC pR pG pS cR cG cS s g r)
 have g2:=g1.push (.cells [.int .i64 (room:Int)] 3 (w.next+1) 0 0)
 have O2:=Own.new g1.2 3 [.int .i64 (room:Int)]
 have g3:=g2.push (.cells [.slice none 0 0] 24 (w.next+1+1) 0 0)
 have O3:=Own.new g2.2 24 [.slice none 0 0]
 have g4:=g3.push (.cells [.bool false] 4 (w.next+1+1+1) 0 0)
 have O4:=Own.new g3.2 4 [.bool false]
 simp only[AW.next_push]at O2 O3 O4
 have O1':=((O1.push (.cells [.int .i64 (room:Int)] 3 (w.next+1) 0 0)).push (.cells [.slice none 0 0] 24 (w.next+1+1) 0 0)).push (.cells [.bool false] 4 (w.next+1+1+1) 0 0)
 have O2':=(O2.push (.cells [.slice none 0 0] 24 (w.next+1+1) 0 0)).push (.cells [.bool false] 4 (w.next+1+1+1) 0 0)
 have O3':=O3.push (.cells [.bool false] 4 (w.next+1+1+1) 0 0)
 have n4:((((w.push (.cells (tourC pR pG pS cR cG cS s g r) 80 w.next 0 0)).push (.cells [.int .i64 (room:Int)] 3 (w.next+1) 0 0)).push (.cells [.slice none 0 0] 24 (w.next+1+1) 0 0)).push (.cells [.bool false] 4 (w.next+1+1+1) 0 0)).next=w.next+4:=by simp only[AW.next_push]
 have c4:=O1'.cell (o:=4) (v:=.int .i64 (r:Int)) rfl rfl
 have d0:=O2'.cell (o:=0) (v:=.int .i64 (room:Int)) rfl rfl
 refine callT_code rfl Tryz.func59 rfl Tryz.s59_eq rfl ?_
 delta Tryz.s59 zo zt zg zh zon ztn zgn zhn zv zk
 unfold tourC at g1 g2 g3 g4 O1 O1' O2 O2' O3 O3' O4 n4 c4 d0
 unfold tourC
 simp -dsimp -implicitDefEqProofs (maxSteps:=2000000) (disch:=first|assumption|omega|simp only[nx];omega|(repeat apply zfp);assumption|simp only[smA];done|simp[oneCell,znp]) only[go_sem,c4,d0,Nat.zero_add]
 generalize (((w.push (.cells [.slice pR s.rooms.length cR,.slice pG s.gates.length cG,.slice pS s.staff.length cS,.int .i64 (g:Int),.int .i64 (r:Int)] 80 w.next 0 0)).push (.cells [.int .i64 (room:Int)] 3 (w.next+1) 0 0)).push (.cells [.slice none 0 0] 24 (w.next+1+1) 0 0)).push (.cells [.bool false] 4 (w.next+1+1+1) 0 0)=w4 at *
 apply callV_of (e:=rfl)
 . exact has_ok r room (by omega) (by omega) w4
 rintro _ _ ⟨rfl,rfl⟩
 cases hb:r.testBit room with
 | true =>
  have st3:=storeV_own1 (o:=0) (v:=.slice none 0 0) O3' (by simp) rfl
  simp only[setL]at st3
  have m5:=MutS.put (S:=fun j=>j=w.next+1+1) g4.2 rfl O3'.lt (.cells [.slice none 0 0] 24 (w.next+1+1) 0 0)
  have O35:=O3'.put [.slice none 0 0]
  have O45:=m5.own O4 (by omega)
  have st4:=storeV_own1 (o:=0) (v:=.bool true) O45 (by simp) rfl
  simp only[setL]at st4
  have m6:=MutS.put (S:=fun j=>j=w.next+1+1+1) m5.fresh rfl O45.lt (.cells [.bool true] 4 (w.next+1+1+1) 0 0)
  have O46:=O45.put [.bool true]
  have O36:=m6.own O35 (by omega)
  have e3:=O36.cell (o:=0) (v:=.slice none 0 0) rfl rfl
  have e4:=O46.cell (o:=0) (v:=.bool true) rfl rfl
  have kk:Keep w.next w _:=(g4.1.trans (m5.keep (B:=w.next) (fun j q=>by omega) g4.1.next)).trans (m6.keep (B:=w.next) (fun j q=>by omega) (by rw[AW.next_put];exact g4.1.next))
  simp -dsimp -implicitDefEqProofs (maxSteps:=2000000) (disch:=first|assumption|omega|simp only[nx];omega|(repeat apply zfp);assumption|simp only[smA];done|simp[oneCell,znp]) only[go_sem,hb,st3,st4,e3,e4,Nat.zero_add]
  refine⟨⟨kk,m6.fresh⟩,?_⟩
  subst hr1
  rw[wayTo_some (n:=0) (q:=([],1)) (fun m hm=>by omega) (by rw[show levelL s g 0=[([],1)]from rfl,List.find?_cons,hb]) (str_room1 hs)]
  exact⟨_,rfl,.inl ⟨rfl,rfl⟩⟩
 | false =>
 obtain⟨w5,hw5⟩:∃ x,w4.push (.cells [.slice none 0 0] 129 (w.next+4) 0 0)=x:=⟨_,rfl⟩
 have n5:w5.next=w.next+5:=by rw[<- hw5,AW.next_push,n4]
 have G5:=(Grown.refl g4.2).push (.cells [.slice none 0 0] 129 (w.next+4) 0 0)
 have O5:=Own.new g4.2 129 [.slice none 0 0]
 rw[n4,hw5]at O5
 rw[hw5]at G5
 obtain⟨w6,hw6⟩:∃ x,w5.push (.map #[] 0)=x:=⟨_,rfl⟩
 have n6:w6.next=w.next+6:=by rw[<- hw6,AW.next_push,n5]
 have G6:=(Grown.refl G5.2).push (.map #[] 0)
 have M6:MapI (w5.push (.map #[] 0)) w5.next (natsL []):=⟨⟨#[],0,blk_push_top _ _,rfl,by simp⟩,by rw[AW.next_push];omega⟩
 rw[n5,hw6]at M6
 rw[hw6]at G6
 obtain⟨w7,hw7⟩:∃ x,w6.push (.cells [.map none] 130 (w.next+6) 0 0)=x:=⟨_,rfl⟩
 have n7:w7.next=w.next+7:=by rw[<- hw7,AW.next_push,n6]
 have G7:=(Grown.refl G6.2).push (.cells [.map none] 130 (w.next+6) 0 0)
 have O7:=Own.new G6.2 130 [.map none]
 rw[n6,hw7]at O7
 rw[hw7]at G7
 have st8:=storeV_own1 (o:=0) (v:=.map (some (w.next+5))) O7 (by simp) rfl
 simp only[setL]at st8
 have m8:=MutS.put (S:=fun j=>j=w.next+6) G7.2 rfl O7.lt (.cells [.map (some (w.next+5))] 130 (w.next+6) 0 0)
 have O8:=O7.put [.map (some (w.next+5))]
 obtain⟨w8,hw8⟩:∃ x,w7.put (w.next+6) (.cells [.map (some (w.next+5))] 130 (w.next+6) 0 0)=x:=⟨_,rfl⟩
 have n8:w8.next=w.next+7:=by rw[<- hw8,AW.next_put,n7]
 rw[hw8]at st8 m8 O8
 have G8:Grown w6 w8:=⟨G7.1.trans (m8.keep (fun j q=>by omega) (by omega)),m8.fresh⟩
 obtain⟨w9,hw9⟩:∃ x,w8.push (.cells [.nilFunc] 133 (w.next+7) 0 0)=x:=⟨_,rfl⟩
 have n9:w9.next=w.next+8:=by rw[<- hw9,AW.next_push,n8]
 have G9:=(Grown.refl m8.fresh).push (.cells [.nilFunc] 133 (w.next+7) 0 0)
 have O9:=Own.new m8.fresh 133 [.nilFunc]
 rw[n8,hw9]at O9
 rw[hw9]at G9
 have st10:=storeV_own1 (o:=0) (v:=.func (.func 87) #[] #[.pointer (some ⟨w.next+6,0,none⟩),.pointer (some ⟨w.next+4,0,none⟩)]) O9 (by simp) rfl
 simp only[setL]at st10
 have m10:=MutS.put (S:=fun j=>j=w.next+7) G9.2 rfl O9.lt (.cells [.func (.func 87) #[] #[.pointer (some ⟨w.next+6,0,none⟩),.pointer (some ⟨w.next+4,0,none⟩)]] 133 (w.next+7) 0 0)
 have O10:=O9.put [.func (.func 87) #[] #[.pointer (some ⟨w.next+6,0,none⟩),.pointer (some ⟨w.next+4,0,none⟩)]]
 obtain⟨w10,hw10⟩:∃ x,w9.put (w.next+7) (.cells [.func (.func 87) #[] #[.pointer (some ⟨w.next+6,0,none⟩),.pointer (some ⟨w.next+4,0,none⟩)]] 133 (w.next+7) 0 0)=x:=⟨_,rfl⟩
 rw[hw10]at st10 m10 O10
 have G10:Grown w8 w10:=⟨G9.1.trans (m10.keep (fun j q=>by omega) (by omega)),m10.fresh⟩
 have G610:=G8.trans G10
 have G510:=G6.trans G610
 have G410:=G5.trans G510
 have gg10:=g4.trans G410
 have hB10:BfsAt w w.next pR pG pS cR cG cS s g room [] [] w10:=⟨O2'.keep G410.1,O3'.keep G410.1,O4.keep G410.1,⟨_,O5.keep G510.1,[],rfl,.nil _ _ _ _,fun y hy=>by cases hy⟩,M6.other (S:=fun _=>False) (.of G610) (fun z=>z),O8.keep G10.1,O10,gg10.1,gg10.2,Nat.le_refl _⟩
 have hvis:=visit_ok (l:=[]) (r:=r) (x:=.slice none 0 0) w10 hB10 (.inl ⟨rfl,rfl⟩) (by simp)
 have l10:=loadAll (O1'.keep G410.1) (n:=5) rfl (by simp[oneCell])
 have cV:=O10.cell (o:=0) (v:=.func (.func 87) #[] #[.pointer (some ⟨w.next+6,0,none⟩),.pointer (some ⟨w.next+4,0,none⟩)]) rfl rfl
 unfold tourC at hvis
 simp -dsimp -implicitDefEqProofs (maxSteps:=2000000) (disch:=first|assumption|omega|simp only[nx];omega|(repeat apply zfp);assumption|simp only[smA];done|simp[oneCell,znp]) only[go_sem,hb,n4,hw5,n5,hw6,n6,hw7,n7,st8,n8,hw9,n9,st10,l10,cV,Nat.zero_add]
 apply callV_of (e:=rfl)
 . exact hvis
 rintro _ w11 ⟨hB11,_⟩
 have hS:seeS [] r=[1]:=by subst hr1;rfl
 have hQ:seeQ [] [] ([],r)=[([],1)]:=by subst hr1;rfl
 rw[hS,hQ]at hB11
 have hT0:TopW s g room 0 [] [([],1)] [1] [([],1)]:=top_begin (by rw[hr1]at hb;exact hb)
 have hmk0:MarksAt w.next w11 []:=⟨List.nodup_nil,fun m hm=>by cases hm⟩
 have htb:=tail_begin hs g
 generalize hTT:tailF s g s.rooms.length 0=T at *
 clear O1 O1' O2 O2' O3 O3' O4 n4 c4 d0 hw5 n5 hw6 n6 hw7 n7 st8 n8 hw8 hw9 n9 st10 hw10 l10 cV g1 g2 g3 g4 G5 G6 G7 G8 G9 G10 G610 G510 G410 gg10 hB10 hvis O5 M6 O7 O8 O9 O10 m8 m10
 simp -dsimp -implicitDefEqProofs (maxSteps:=2000000) (disch:=first|assumption|omega|simp only[nx];omega|(repeat apply zfp);assumption|simp only[smA];done|simp[oneCell,znp]) only[go_sem]
 refine loopR (fun k t ds w1=>∃ i:Nat,i≤T/\k=T - i/\ev t (.tmp 3)=.pointer (some ⟨w.next+1,0,none⟩)/\ev t (.tmp 4)=.pointer (some ⟨w.next+2,0,none⟩)/\ev t (.tmp 5)=.pointer (some ⟨w.next+3,0,none⟩)/\ev t (.tmp 6)=.pointer (some ⟨w.next+4,0,none⟩)/\ev t (.tmp 8)=.pointer (some ⟨w.next+7,0,none⟩)/\∃ n A B S Q M,ds=M.map DI.mark/\MarksAt w.next w1 M/\BfsAt w w.next pR pG pS cR cG cS s g room S Q w1/\TopW s g room n A B S Q/\n < s.rooms.length/\T=i+(B.length+tailF s g (s.rooms.length - (n+1)) (n+1))) T ?_ ?_
 . refine⟨0,by omega,by omega,?_,?_,?_,?_,?_,0,[],[([],1)],[1],[([],1)],[],rfl,hmk0,hB11,hT0,str_room1 hs,by rw[htb];omega⟩ <;> simp -dsimp -implicitDefEqProofs (maxSteps:=2000000) (disch:=first|assumption|omega|simp only[nx];omega|(repeat apply zfp);assumption|simp only[smA];done|simp[oneCell,znp]) only[go_sem] <;> rfl
 rintro k t ds w1 ⟨i,hi,rfl,e3,e4,e5,e6,e8,n,A,B,S,Q,M,rfl,hM,hB,hT,hn,hc⟩
 clear hB11 hT0 hmk0 htb hTT
 obtain⟨vq,oq,qa⟩:=id hB.q
 cases Q with
 | nil =>
  have hnone:=hT.none hs
  obtain⟨xs,hx1,hx2,_⟩:=id qa
  obtain rfl:xs=[]:=by cases xs with|nil=>rfl|cons=>cases hx1
  obtain⟨p,c,rfl⟩:=hx2.one
  have cq:=oq.cell (o:=0) (v:=.slice p ([]:List ((List Nat × Nat) × Value)).length c) rfl rfl
  have hgt:decide ((0:Int) < ((0:Nat):Int))=false:=rfl
  have cF:=hB.oF.cell (o:=0) (v:=.slice none 0 0) rfl rfl
  have cO:=hB.oO.cell (o:=0) (v:=.bool false) rfl rfl
  have n5:(w1.put (w.next+2) (.cells [.slice none 0 0] 24 (w.next+2) 0 0)).next=w1.next:=AW.next_put _ _ _
  have st5:=storeV_own1 (o:=0) (v:=.slice none 0 0) hB.oF (by simp) rfl
  simp only[setL]at st5
  have hle5:=wle_same hB.oF
  have m5:=MutS.put (S:=fun j=>j=w.next+2) hB.fresh rfl hB.oF.lt (.cells [.slice none 0 0] 24 (w.next+2) 0 0)
  have F5:=hB.oF.put [.slice none 0 0]
  have O5:=m5.own hB.oO (by omega)
  have mk5:=hM.put m5 (own_notD hB.oF)
  have st6:=storeV_own1 (o:=0) (v:=.bool false) O5 (by simp) rfl
  simp only[setL]at st6
  have m6:=MutS.put (S:=fun j=>j=w.next+3) m5.fresh rfl O5.lt (.cells [.bool false] 4 (w.next+3) 0 0)
  have O6:=O5.put [.bool false]
  have F6:=m6.own F5 (by omega)
  have mk6:=mk5.put m6 (own_notD O5)
  have k6:Keep w.next w _:=(hB.keep.trans (m5.keep (B:=w.next) (fun j q=>by omega) hB.keep.next)).trans (m6.keep (B:=w.next) (fun j q=>by omega) (by rw[n5];exact hB.keep.next))
  simp -dsimp -implicitDefEqProofs (maxSteps:=2000000) (disch:=first|assumption|omega|simp only[nx];omega|(repeat apply zfp);assumption|simp only[smA];done|simp[oneCell,znp]) only[go_sem,e3,e4,e5,e6,e8,cq,List.length_nil,hgt,cF,cO,st5,hle5,st6]
  refine left_marks M _ m6.fresh mk6.1 (fun m hm=>⟨(mk6.2 m hm).1,(mk6.2 m hm).2.2⟩) fun W hW=>?_
  have hno:∀ j,j≤w.next+7->¬ j ∈ M:=fun j hj q=>by have:=(mk6.2 j q).2.1;omega
  have x2:=(hW.own F6 (hno _ (by omega))).cell (o:=0) (v:=.slice none 0 0) rfl rfl
  have x3:=(hW.own O6 (hno _ (by omega))).cell (o:=0) (v:=.bool false) rfl rfl
  have kW:Keep w.next w W:=k6.trans (hW.keep (fun j q=>by have:=(mk6.2 j q).2.1;omega) k6.next)
  simp -dsimp -implicitDefEqProofs (maxSteps:=2000000) (disch:=first|assumption|omega|simp only[nx];omega|(repeat apply zfp);assumption|simp only[smA];done|simp[oneCell,znp]) only[go_sem,e4,e5,x2,x3]
  rw[hnone]
  exact⟨⟨kW,hW.fresh⟩,rfl⟩
 | cons p Q =>
  obtain⟨n',A',B',hn',hm,hc'⟩:=hT.pop hs hn rfl
  obtain⟨b,o,v',xw,rfl,hwx,hbl,hld,hsl,hv1,qa'⟩:=pop_queue qa
  have cq:=oq.cell (o:=0) (v:=.slice (some ⟨b,o,none⟩) (Q.length+1) (Q.length+1)) rfl rfl
  have hgt:decide ((0:Int) < ((Q.length+1:Nat):Int))=true:=decide_eq_true (by omega)
  have hlt0:(0:Int) < ((Q.length+1:Nat):Int):=by omega
  have F1:=hB.fresh
  have g1:=(Grown.refl F1).push (.cells [.slice none 0 0,.slice none 0 0,.slice none 0 0,.int .i64 0,.int .i64 0,.slice none 0 0] 132 w1.next 0 0)
  have O2:=Own.new F1 132 [.slice none 0 0,.slice none 0 0,.slice none 0 0,.int .i64 0,.int .i64 0,.slice none 0 0]
  have st2:=storeV_own (o:=0) (l:=tourC pR pG pS cR cG cS s g p.2++[xw]) (size:=6) O2 rfl (by omega) (by simp[tourC]) (by
   have:=hwx.one
   simp[tourC,oneCell]
   exact this)
  have hcut:setsL [.slice none 0 0,.slice none 0 0,.slice none 0 0,.int .i64 0,.int .i64 0,.slice none 0 0] 0 (tourC pR pG pS cR cG cS s g p.2++[xw])=tourC pR pG pS cR cG cS s g p.2++[xw]:=rfl
  rw[hcut]at st2
  have m2:=MutS.put (S:=fun j=>j=w1.next) g1.2 rfl O2.lt (.cells (tourC pR pG pS cR cG cS s g p.2++[xw]) 132 w1.next 0 0)
  have O2':=O2.put (tourC pR pG pS cR cG cS s g p.2++[xw])
  have g2:Grown w1 _:=⟨g1.1.trans (m2.keep (B:=w1.next) (fun j q=>by omega) g1.1.next),m2.fresh⟩
  have n2:((w1.push (.cells [.slice none 0 0,.slice none 0 0,.slice none 0 0,.int .i64 0,.int .i64 0,.slice none 0 0] 132 w1.next 0 0)).put w1.next (.cells (tourC pR pG pS cR cG cS s g p.2++[xw]) 132 w1.next 0 0)).next=w1.next+1:=by rw[AW.next_put,AW.next_push]
  obtain⟨w2,hw2⟩:∃ x,(w1.push (.cells [.slice none 0 0,.slice none 0 0,.slice none 0 0,.int .i64 0,.int .i64 0,.slice none 0 0] 132 w1.next 0 0)).put w1.next (.cells (tourC pR pG pS cR cG cS s g p.2++[xw]) 132 w1.next 0 0)=x:=⟨_,rfl⟩
  rw[hw2]at g2 n2 O2' st2
  clear m2 O2 g1
  have hB2:=hB.grown g2
  have qa2:=qa'.grown g2
  have hsl2:sliceV w2 6 (.slice (some ⟨b,o,none⟩) (Q.length+1) (Q.length+1)) (some (.int .i64 1)) none=some v':=by rw[sliceV_same (g2.1.blk _ hbl)];exact hsl
  have cq2:=(oq.keep g2.1).cell (o:=0) (v:=.slice (some ⟨b,o,none⟩) (Q.length+1) (Q.length+1)) rfl rfl
  have st3:=storeV_own1 (o:=0) (v:=v') (oq.keep g2.1) (by simp) hv1
  simp only[setL]at st3
  obtain⟨hB3,m3,no3⟩:=hB2.setq qa2
  have O3:=m3.own O2' (by have:=hB.oV.lt;omega)
  have hx3:=(hwx.grown g2).put m3 no3
  have mk3:=(hM.grown g2).put m3 (own_notD (oq.keep g2.1))
  have n3:(w2.put (w.next+4) (.cells [v'] 129 (w.next+4) 0 0)).next=w1.next+1:=by rw[AW.next_put,n2]
  obtain⟨w3,hw3⟩:∃ x,w2.put (w.next+4) (.cells [v'] 129 (w.next+4) 0 0)=x:=⟨_,rfl⟩
  rw[hw3]at hB3 m3 O3 hx3 mk3 n3 st3
  have hbo:w.next+7 < w1.next:=hB.oV.lt
  have l3:loadV w3 true 5 (.pointer (some ⟨w1.next,0,none⟩))=some (.agg (tourC pR pG pS cR cG cS s g p.2).toArray):=by
   have a0:=O3.cell (o:=0) (v:=.slice pR s.rooms.length cR) rfl rfl
   have a1:=O3.cell (o:=1) (v:=.slice pG s.gates.length cG) rfl rfl
   have a2:=O3.cell (o:=2) (v:=.slice pS s.staff.length cS) rfl rfl
   have a3:=O3.cell (o:=3) (v:=.int .i64 (g:Int)) rfl rfl
   have a4:=O3.cell (o:=4) (v:=.int .i64 (p.2:Int)) rfl rfl
   simp only[loadV,aCells,a0,a1,a2,a3,a4]
   rfl
  have hmk:=fun w' (f':Fresh w')=>steps_mk (tourC pR pG pS cR cG cS s g p.2) rfl (by simp[tourC,oneCell]) w' f'
  unfold tourC at hld st2 hw2 l3 hmk
  simp only[List.cons_append,List.nil_append]at hld st2 hw2
  simp -dsimp -implicitDefEqProofs (maxSteps:=2000000) (disch:=first|assumption|omega|simp only[nx];omega|(repeat apply zfp);assumption|simp only[smA];done|simp[oneCell,znp]) only[go_sem,e3,e4,e5,e6,e8,cq,hgt,indexV_eq,hlt0,hld,st2,hw2,cq2,hsl2,st3,hw3,l3,Int.toNat_zero,Nat.zero_mul,Nat.add_zero,ev_const]
  apply callV_of (e:=rfl)
  . exact hmk w3 hB3.fresh
  rintro _ w4 ⟨rfl,OX,g5,n5⟩
  have hle3:WLe w3 w4:=g5.1.wle hB3.fresh
  simp -dsimp -implicitDefEqProofs (maxSteps:=2000000) (disch:=first|assumption|omega|simp only[nx];omega|(repeat apply zfp);assumption|simp only[smA];done|simp[oneCell,znp]) only[go_sem,e3,e4,e5,e6,e8,hle3]
  refine codeT_rangeJ rfl (by simp -dsimp -implicitDefEqProofs (maxSteps:=2000000) (disch:=first|assumption|omega|simp only[nx];omega|(repeat apply zfp);assumption|simp only[smA];done|simp[oneCell,znp]) only[go_sem];rfl) ?_
  have hn3:=g5.1.next
  have gL:=fun (lv:ALoop)=>((Grown.refl g5.2).push (.deferred (some []))).push (.loop lv)
  have hnL1:(w4.push (.deferred (some []))).next=w4.next+1:=AW.next_push _ _
  have hnL:=fun (lv:ALoop)=>(AW.next_push (w4.push (.deferred (some []))) (.loop lv))
  have bL:=fun (lv:ALoop)=>(show ((w4.push (.deferred (some []))).push (.loop lv)).blk (w4.next+1)=some (.loop lv)from by rw[AW.blk_push _ _ _ (Trie.in_ _) (Trie.in_ _),if_pos hnL1.symm])
  have bM:=fun (lv:ALoop)=>(show ((w4.push (.deferred (some []))).push (.loop lv)).blk w4.next=some (.deferred (some []))from by rw[AW.blk_push _ _ _ (Trie.in_ _) (Trie.in_ _),if_neg (by omega),AW.blk_push _ _ _ (Trie.in_ _) (Trie.in_ _),if_pos rfl])
  have hB4:=hB3.grown g5
  have hx4:=hx3.grown g5
  have mk4:=mk3.grown g5
  have O4:=O3.keep g5.1
  have mkL:=fun (lv:ALoop)=>(show MarksAt w.next ((w4.push (.deferred (some []))).push (.loop lv)) (w4.next :: M)from ⟨List.nodup_cons.2 ⟨fun q=>by have:=(mk3.2 _ q).1;omega,mk4.1⟩,fun m hm=>by
   rcases List.mem_cons.1 hm with rfl|hm
   . exact⟨by rw[hnL,hnL1];omega,by omega,bM lv⟩
   . exact ((mk4.grown (gL lv)).2 m hm)⟩)
  have key:∀ T0:Tmps,ev T0 (.tmp 3)=.pointer (some ⟨w.next+1,0,none⟩)->ev T0 (.tmp 4)=.pointer (some ⟨w.next+2,0,none⟩)->ev T0 (.tmp 5)=.pointer (some ⟨w.next+3,0,none⟩)->ev T0 (.tmp 8)=.pointer (some ⟨w.next+7,0,none⟩)->ev T0 (.tmp 9)=.pointer (some ⟨w1.next,0,none⟩)->CallT Tryz.prog Tryz.T1 (.fn (.func 109) #[.pointer (some ⟨w3.next,0,none⟩)]) #[.func (.yield (w4.next+1)) #[] #[]] ((w4.push (.deferred (some []))).push (.loop (lpY .ready none T0 w4.next))) (fun _ w'=>PostY w w.next pR pG pS cR cG cS s g room w3.next w1.next (w4.next+1) n' (w4.next :: M) A' B' p xw (lpY .ready none T0 w4.next) w'):=by
   intro T0 z3 z4 z5 z8 z9
   exact roundY_ok hs hg hgb (by omega) hA hn' T0 z3 z4 z5 z8 z9 _ hm ⟨hB4.grown (gL _),(OX.push _).push _,(O4.push _).push _,hx4.grown (gL _),bL _,mkL _,by rw[hnL,hnL1];omega,by omega⟩
  refine (key _ (by simp -dsimp -implicitDefEqProofs (maxSteps:=2000000) (disch:=first|assumption|omega|simp only[nx];omega|(repeat apply zfp);assumption|simp only[smA];done|simp[oneCell,znp]) only[go_sem,e3]) (by simp -dsimp -implicitDefEqProofs (maxSteps:=2000000) (disch:=first|assumption|omega|simp only[nx];omega|(repeat apply zfp);assumption|simp only[smA];done|simp[oneCell,znp]) only[go_sem,e4]) (by simp -dsimp -implicitDefEqProofs (maxSteps:=2000000) (disch:=first|assumption|omega|simp only[nx];omega|(repeat apply zfp);assumption|simp only[smA];done|simp[oneCell,znp]) only[go_sem,e5]) (by simp -dsimp -implicitDefEqProofs (maxSteps:=2000000) (disch:=first|assumption|omega|simp only[nx];omega|(repeat apply zfp);assumption|simp only[smA];done|simp[oneCell,znp]) only[go_sem,e8]) (by simp -dsimp -implicitDefEqProofs (maxSteps:=2000000) (disch:=first|assumption|omega|simp only[nx];omega|(repeat apply zfp);assumption|simp only[smA];done|simp[oneCell,znp]) only[go_sem])).mono ?_
  clear key bL bM mkL
  rintro _ w5 (⟨S5,Q5,hm5,h5⟩|⟨q,hq,lv,x,hl5,hst,hpd,oF5,hx5,oO5,mk5,k5,f5,hlt5,hlp5⟩)
  . refine⟨_,h5.loop,.inl ⟨rfl,rfl,?_⟩⟩
    intro W hW
    obtain⟨lvX,hX⟩:∃ x:ALoop,W=w5.put (w4.next+1) (.loop x):=⟨_,hW⟩
    have h6:=h5.relp lvX
    rw[<- hX]at h6
    simp -dsimp -implicitDefEqProofs (maxSteps:=2000000) (disch:=first|assumption|omega|simp only[nx];omega|(repeat apply zfp);assumption|simp only[smA];done|simp[oneCell,znp]) only[go_sem]
    have htop:=hm5.top
    refine⟨T - (i+1),by omega,i+1,by omega,rfl,by(simp only[go_sem,e3];try rfl),by(simp only[go_sem,e4];try rfl),by(simp only[go_sem,e5];try rfl),by(simp only[go_sem,e6];try rfl),by(simp only[go_sem,e8];try rfl),n',A'++[p],B',S5,Q5,w4.next :: M,rfl,h6.marks,h6.bfs,htop,hn',by omega⟩
  · refine ⟨lv,hl5,.inr ⟨hst,.exit 0,by rw[hpd];rfl,by rw[hpd];simp,?_⟩⟩
    intro W hW
    have m6:=MutS.put (S:=fun j=>j=w4.next+1) f5 rfl hlt5 (.loop { lv with state:=.exhausted })
    rw[<- hW]at m6
    have oFW:=m6.own oF5 (by omega)
    have oOW:=m6.own oO5 (by omega)
    have hxW:=hx5.put m6 (noInt_loop hl5)
    have mkW:=mk5.put m6 (by rw[hl5];intro z;cases z)
    have kW0:Keep w.next w W:=k5.trans (m6.keep (fun j q=>by omega) k5.next)
    have fW:=m6.fresh
    clear hW m6 mk5 hx5
    have x1:=hxW.one
    have cF:=oFW.cell (o:=0) (v:=x) rfl x1
    have cO:=oOW.cell (o:=0) (v:=.bool true) rfl rfl
    have hsx:same 12 x x=true:=by
     obtain⟨p,c,rfl,_⟩:=hxW.arr.open
     exact same_sV 11 _ _ _
    have st7:=storeV_own1 (o:=0) (v:=x) oFW (by simp) x1
    simp only[setL]at st7
    have hle7:=wle_same oFW
    have m7:=MutS.put (S:=fun j=>j=w.next+2) fW rfl oFW.lt (.cells [x] 24 (w.next+2) 0 0)
    have n7:(W.put (w.next+2) (.cells [x] 24 (w.next+2) 0 0)).next=W.next:=AW.next_put _ _ _
    have F7:=oFW.put [x]
    have no7:NoInt W (w.next+2):=noInt_own oFW fun v hv q y=>by
     rw[List.mem_singleton.1 hv]
     obtain⟨p,c,rfl,_⟩:=hxW.arr.open
     intro z;cases z
    have hx7:=hxW.put m7 no7
    have O7:=m7.own oOW (by omega)
    have mk7:=mkW.put m7 (own_notD oFW)
    have st8:=storeV_own1 (o:=0) (v:=.bool true) O7 (by simp) rfl
    simp only[setL]at st8
    have m8:=MutS.put (S:=fun j=>j=w.next+3) m7.fresh rfl O7.lt (.cells [.bool true] 4 (w.next+3) 0 0)
    have O8:=O7.put [.bool true]
    have F8:=m8.own F7 (by omega)
    have hx8:=hx7.put m8 (noInt_own O7 fun v hv q y=>by rw[List.mem_singleton.1 hv];intro z;cases z)
    have mk8:=mk7.put m8 (own_notD O7)
    have k8:Keep w.next w _:=(kW0.trans (m7.keep (B:=w.next) (fun j q=>by omega) kW0.next)).trans (m8.keep (B:=w.next) (fun j q=>by omega) (by rw[n7];exact kW0.next))
    simp -dsimp -implicitDefEqProofs (maxSteps:=2000000) (disch:=first|assumption|omega|simp only[nx];omega|(repeat apply zfp);assumption|simp only[smA];done|simp[oneCell,znp]) only[go_sem,e3,e4,e5,e6,e8,cF,cO,hsx,st7,hle7,st8]
    have hno:∀ j,j≤w.next+7->¬ j ∈ w4.next :: M:=fun j hj q=>by have:=(mk8.2 j q).2.1;omega
    refine left_marks (w4.next :: M) _ m8.fresh mk8.1 (fun m hm=>⟨(mk8.2 m hm).1,(mk8.2 m hm).2.2⟩) fun W2 hW2=>?_
    have z2:=(hW2.own F8 (hno _ (by omega))).cell (o:=0) (v:=x) rfl x1
    have z3:=(hW2.own O8 (hno _ (by omega))).cell (o:=0) (v:=.bool true) rfl rfl
    have kW:Keep w.next w W2:=k8.trans (hW2.keep (fun j q=>by have:=(mk8.2 j q).2.1;omega) k8.next)
    have hx9:WayAt W2 x q.1:=hx8.mutS hW2 fun j hj o q y z=>by
     simp only[AW.cell?,(mk8.2 j hj).2.2]at z
     cases z
    simp -dsimp -implicitDefEqProofs (maxSteps:=2000000) (disch:=first|assumption|omega|simp only[nx];omega|(repeat apply zfp);assumption|simp only[smA];done|simp[oneCell,znp]) only[go_sem,e4,e5,z2,z3]
    rw[hq]
    exact⟨⟨kW,hW2.fresh⟩,x,rfl,hx9⟩
def wayO (s:StrN) (x room:Int):Option (List Nat × Nat):=wayTo s x.toNat room.toNat s.rooms.length
def wayE (s:StrN) (x room:Int):Int:=if askN s x=0 then (if inR 0 room ((s.rooms.length:Int) - 1)=true then (if (wayO s x room).isSome=true then 0 else 4) else 7) else askN s x
def wayL (s:StrN) (x room:Int):List Nat:=if wayE s x room=0 then ((wayO s x room).map Prod.fst).getD [] else []
def WayIs (s:StrN) (x room:Int) (v:Value) (w:AW):Prop:=∃ p n c,v=.tuple #[.slice p n c,.int .i64 (wayE s x room)]/\ArrOf w 1 icells (.slice p n c) (natsL (wayL s x room))
theorem way_bad {s:StrN} {x room:Int} (h:askN s x ≠ 0):wayE s x room=askN s x/\wayL s x room=[]:=by
 have e:wayE s x room=askN s x:=by unfold wayE;rw[if_neg h]
 exact⟨e,by unfold wayL;rw[e,if_neg h]⟩
theorem way_off {s:StrN} {x room:Int} (h:askN s x=0) (hr:inR 0 room ((s.rooms.length:Int) - 1)=false):wayE s x room=7/\wayL s x room=[]:=by
 have e:wayE s x room=7:=by unfold wayE;rw[if_pos h,if_neg (by rw[hr];intro z;cases z)]
 exact⟨e,by unfold wayL;rw[e,if_neg (by omega)]⟩
theorem way_none {s:StrN} {x room:Int} (h:askN s x=0) (hr:inR 0 room ((s.rooms.length:Int) - 1)=true) (ho:wayO s x room=none):wayE s x room=4/\wayL s x room=[]:=by
 have e:wayE s x room=4:=by unfold wayE;rw[if_pos h,if_pos hr,ho];rfl
 exact⟨e,by unfold wayL;rw[e,if_neg (by omega)]⟩
theorem way_some {s:StrN} {x room:Int} {q:List Nat × Nat} (h:askN s x=0) (hr:inR 0 room ((s.rooms.length:Int) - 1)=true) (ho:wayO s x room=some q):wayE s x room=0/\wayL s x room=q.1:=by
 have e:wayE s x room=0:=by unfold wayE;rw[if_pos h,if_pos hr,ho];rfl
 exact⟨e,by unfold wayL;rw[e,if_pos rfl,ho];rfl⟩
set_option maxHeartbeats 32000000 in
theorem WayV22_ok (s:StrN) (pR pG pS:Option Addr) (cR cG cS:Nat) (x room:Int) (w:AW) (f:Fresh w) (hA:StrAt w pR pG pS cR cG cS s) :
    CallT Tryz.prog Tryz.T1 (.fn (.func 22) #[]) #[.agg (strC pR pG pS cR cG cS s).toArray,.int .i64 x,.int .i64 room] w (fun v w'=>Grown w w'/\WayIs s x room v w'):=by
 have g1:=(Grown.refl f).push (.cells (strC pR pG pS cR cG cS s) 26 w.next 0 0)
 have O1:=Own.new f 26 (strC pR pG pS cR cG cS s)
 have hl1:=loadAll O1 (n:=3) rfl (by simp[strC,oneCell])
 have hop:=fun w' (g':Grown w w')=>open_ok s pR pG pS cR cG cS x w' g'.2 (hA.grown g')
 have hch:=fun w' (g':Grown w w')=>checkRoom_ok s pR pG pS cR cG cS room w' g'.2 (hA.grown g')
 have hcut:∀ l:List Value,l.length=5->setsL [.slice none 0 0,.slice none 0 0,.slice none 0 0,.int .i64 0,.int .i64 0] 0 l=l:=fun l h=>by match l,h with|[a,b,c,d,e],_=>rfl
 unfold strC at *
 refine callT_code rfl Tryz.func22 rfl Tryz.s22_eq rfl ?_
 delta Tryz.s22 zo zon zv zk
 simp -dsimp -implicitDefEqProofs (maxSteps:=2000000) (disch:=first|assumption|omega|simp only[nx];omega|(repeat apply zfp);assumption|simp only[smA];done|simp[oneCell,znp]) only[go_sem,hl1]
 generalize w.push (.cells [.slice pR s.rooms.length cR,.slice pG s.gates.length cG,.slice pS s.staff.length cS] 26 w.next 0 0)=w1 at *
 apply callV_of (e:=rfl)
 . exact hop w1 g1
 rintro _ w2 ⟨hv,g2⟩
 have gg2:=g1.trans g2
 have g3:=(Grown.refl gg2.2).push (.cells [.slice none 0 0,.slice none 0 0,.slice none 0 0,.int .i64 0,.int .i64 0] 80 w2.next 0 0)
 have O3:=Own.new gg2.2 80 [.slice none 0 0,.slice none 0 0,.slice none 0 0,.int .i64 0,.int .i64 0]
 rcases hv with ⟨h,rfl⟩|⟨h,rfl⟩
 · obtain ⟨hs,g,rfl,hg,_,hgb⟩:=askN_ok h
   have st:=storeV_own (o:=0) (l:=tourC pR pG pS cR cG cS s g 1) (size:=5) O3 rfl (by omega) (by simp[tourC]) (by simp[tourC,oneCell])
   rw[hcut _ rfl]at st
   have m4:=MutS.put (S:=fun j=>j=w2.next) g3.2 rfl O3.lt (.cells (tourC pR pG pS cR cG cS s g 1) 80 w2.next 0 0)
   have O4:=O3.put (tourC pR pG pS cR cG cS s g 1)
   have g4:Grown w2 _:=⟨g3.1.trans (m4.keep (B:=w2.next) (fun j q=>by omega) g3.1.next),m4.fresh⟩
   have gg4:=gg2.trans g4
   have O14:=(O1.keep g2.1).keep g4.1
   have hl4:=loadAll O14 (n:=3) rfl (by simp[oneCell])
   unfold tourC at st O4 g4 gg4 O14 hl4
   unfold tourC
   simp -dsimp -implicitDefEqProofs (maxSteps:=2000000) (disch:=first|assumption|omega|simp only[nx];omega|(repeat apply zfp);assumption|simp only[smA];done|simp[oneCell,znp]) only[go_sem,st,hl4,show ((g:Int)).toNat=g from rfl]
   generalize (w2.push (.cells [.slice none 0 0,.slice none 0 0,.slice none 0 0,.int .i64 0,.int .i64 0] 80 w2.next 0 0)).put w2.next (.cells [.slice pR s.rooms.length cR,.slice pG s.gates.length cG,.slice pS s.staff.length cS,.int .i64 (g:Int),.int .i64 ((1:Nat):Int)] 80 w2.next 0 0)=w4 at *
   apply callV_of (e:=rfl)
   . exact hch w4 gg4
   rintro _ w5 ⟨rfl,g5⟩
   have gg5:=gg4.trans g5
   have hrE:roomE s room=if inR 0 room ((s.rooms.length:Int) - 1)=true then 0 else 7:=by unfold roomE;rw[if_pos hs]
   cases hin:inR 0 room ((s.rooms.length:Int) - 1) with
   | false =>
    rw[hin,if_neg (by intro z;cases z)]at hrE
    obtain⟨e1,e2⟩:=way_off h hin
    have h70:¬ (7:Int)=0:=by omega
    simp -dsimp -implicitDefEqProofs (maxSteps:=2000000) (disch:=first|assumption|omega|simp only[nx];omega|(repeat apply zfp);assumption|simp only[smA];done|simp[oneCell,znp]) only[go_sem,hrE,h70]
    refine⟨gg5,_,_,_,by(rw[e1];try rfl),?_⟩
    rw[e2];exact .nil _ _ _
   | true =>
    rw[hin,if_pos rfl]at hrE
    obtain⟨_,k,rfl,hk⟩:=roomE_ok hrE
    have hl5:=loadAll (O4.keep g5.1) (n:=5) rfl (by simp[oneCell])
    have hwy:=wayV_ok hs (pR:=pR) (pG:=pG) (pS:=pS) (cR:=cR) (cG:=cG) (cS:=cS) hg hgb hk (r:=1) rfl w5 g5.2 (hA.grown gg5)
    unfold tourC at hwy
    simp -dsimp -implicitDefEqProofs (maxSteps:=2000000) (disch:=first|assumption|omega|simp only[nx];omega|(repeat apply zfp);assumption|simp only[smA];done|simp[oneCell,znp]) only[go_sem,hrE,hl5]
    apply callV_of (e:=rfl)
    . exact hwy
    rintro v w6 ⟨g6,hW⟩
    have ho:wayO s (g:Int) (k:Int)=wayTo s g k s.rooms.length:=rfl
    cases hwt:wayTo s g k s.rooms.length with
    | none =>
     rw[hwt]at hW ho
     obtain⟨e1,e2⟩:=way_none h hin ho
     have hv:v=.tuple #[.slice none 0 0,.bool false]:=hW
     subst hv
     simp -dsimp -implicitDefEqProofs (maxSteps:=2000000) (disch:=first|assumption|omega|simp only[nx];omega|(repeat apply zfp);assumption|simp only[smA];done|simp[oneCell,znp]) only[go_sem]
     refine⟨gg5.trans g6,_,_,_,by(rw[e1];try rfl),?_⟩
     rw[e2];exact .nil _ _ _
    | some q =>
     rw[hwt]at hW ho
     obtain⟨e1,e2⟩:=way_some h hin ho
     obtain⟨y,rfl,hy⟩:=hW
     have ha:=hy.arr
     obtain⟨p,c,rfl,_⟩:=id ha.open
     simp -dsimp -implicitDefEqProofs (maxSteps:=2000000) (disch:=first|assumption|omega|simp only[nx];omega|(repeat apply zfp);assumption|simp only[smA];done|simp[oneCell,znp]) only[go_sem]
     refine⟨gg5.trans g6,_,_,_,by(rw[e1];try rfl),?_⟩
     rw[e2];exact ha
 . obtain⟨e1,e2⟩:=way_bad (room:=room) h
   have st:=storeV_own (o:=0) (l:=[.slice none 0 0,.slice none 0 0,.slice none 0 0,.int .i64 0,.int .i64 0]) (size:=5) O3 rfl (by omega) (by simp) rfl
   rw[hcut _ rfl]at st
   have m4:=MutS.put (S:=fun j=>j=w2.next) g3.2 rfl O3.lt (.cells [.slice none 0 0,.slice none 0 0,.slice none 0 0,.int .i64 0,.int .i64 0] 80 w2.next 0 0)
   have g4:Grown w2 _:=⟨g3.1.trans (m4.keep (B:=w2.next) (fun j q=>by omega) g3.1.next),m4.fresh⟩
   unfold noTour
   simp -dsimp -implicitDefEqProofs (maxSteps:=2000000) (disch:=first|assumption|omega|simp only[nx];omega|(repeat apply zfp);assumption|simp only[smA];done|simp[oneCell,znp]) only[go_sem,st,h]
   refine⟨gg2.trans g4,_,_,_,by(rw[e1];try rfl),?_⟩
   rw[e2];exact .nil _ _ _
theorem wayTo_next (s:StrN) (g room n:Nat) (h:wayTo s g room n=none):wayTo s g room (n+1)=seekW s g room n ([],1):=by
 rw[wayTo,h]
def lessN (a b:Nat):Nat:=(BitVec.ofNat 64 a &&& ~~~BitVec.ofNat 64 b).toNat
def guardB (s:StrN) (goals g:Nat):Bool:=!reachB s goals (lessN (2 ^ s.staff.length - 1) g)
end Go.Proofs

namespace Go.Proofs
open Go Go.RowKit Go.Sim
end Go.Proofs

namespace Go.Proofs
open Go Go.RowKit Go.Sim
set_option maxRecDepth 100000
end Go.Proofs
