/- This program: its code, contracts, numbers, part 10. -/
import Derived.Test.YtnbfkakjdifcpaaGreatPai
set_option linter.unusedVariables false
set_option linter.unusedSimpArgs false
namespace Go.Proofs
open Go Go.RowKit Go.Sim
set_option maxRecDepth 100000
theorem nats_set (T:List Nat) (i v:Nat):natsL (T.set i v)=(natsL T).set i (v:Int):=by unfold natsL;rw[List.map_set]
theorem keepB {B:Nat} {w w':AW} (g:Grown w w') (h:B≤w.next):Keep B w w':=g.1.mono h
def DoneH (pR pG pS:Option Addr) (cR cG cS:Nat) (s:StrN) (hb m:Nat) (x:LogN) (c:CarN) (ever:List Nat) (w0 w':AW):Prop :=
 ∃ ve' vs',HallAt w' pR pG pS cR cG cS s hb (m+1) (stepN x c) (everN c ever) ve' vs'/\Keep hb w0 w'/\Fresh w'
def sealN (x:LogN) (c:CarN):List Nat:=if c.kind=1 \/ c.kind=4 then x.seals++[c.sl] else x.seals
section
variable {pR pG pS:Option Addr} {cR cG cS:Nat} {s:StrN} {hb m:Nat} {x:LogN} {ever:List Nat}
set_option maxHeartbeats 64000000 in
theorem do_c120 (c:CarN) (hc:CarOk s c) (ht:CarT c) (h0:stepE s x c=0) (hk:LogOk x) (hev:EverOk x ever) (hfew:ever.length≤m/\x.seals.length≤m) (w0 w:AW) (f:Fresh w) (hK:Keep hb w0 w) (hbn:hb≤w.next) (bc bb:Nat) (ve' vs':Value)
    (OC:Own w bc 62 (carC c)) (OB:Own w bb 47 (bagC (bagB x c)))
    (OH:Own w (hb+2) 117 (strC pR pG pS cR cG cS s++[.slice (some ⟨hb,0,none⟩) 32 32,ve',vs',.slice (some ⟨hb+1,0,none⟩) 32 32]))
    (OG:Own w hb 47 (x.bags.flatMap bagC)) (OS:Own w (hb+1) 3 ((natsL (x.trails.set c.bag (trailB x c))).flatMap icells)) (RW:RowsH hb w ve' vs' (everN c ever) (sealN x c))
    (t:Tmps) (e3:ev t (.tmp 3)=.pointer (some ⟨bc,0,none⟩)) (e4:ev t (.tmp 4)=.slice (some ⟨hb,0,none⟩) 32 32) (e6:ev t (.tmp 6)=.pointer (some ⟨bb,0,none⟩)) :
    CodeR Tryz.prog Tryz.T1 { fn:=108,round:=none } Tryz.s108_c120 t [] w (fun e t ds w'=>Sim.Left (P:=Tryz.prog) Tryz.f108.results.toList e t ds w' (fun _ w'=>DoneH pR pG pS cR cG cS s hb m x c ever w0 w')) .mk:=by
 have hbag:=hc.bag
 have hB32:=hk.bags
 have hkI:(c.bag:Int) < 32:=by omega
 obtain⟨wz,stz,OGz,mz,hnz⟩:=store_row f OG hB32 hbag (bagB x c)
 have hldz:=loadAll OB (n:=5) rfl (bagC_one _)
 have c2z:=OC.cell (o:=2) (v:=.int .i64 (c.bag:Int)) rfl rfl
 delta Tryz.s108_c120 zo zon zv
 simp -dsimp -implicitDefEqProofs (maxSteps:=2000000) (disch:=first|assumption|omega|simp only[nx];omega|(repeat apply zfp);assumption|simp only[smA];done|simp[oneCell,znp]) only[go_sem,e3,e4,e6,c2z,hldz,indexV_eq,hkI,stz,Nat.zero_add]
 refine⟨ve',vs',⟨mz.own OH (fun z=>by have:hb+2=hb:=z;omega),?_,?_,?_,hk.step c,hev.step hk hc ht h0,?_⟩,hK.trans (mz.keep (fun j z=>by have:j=hb:=z;omega) hbn),mz.fresh⟩
 . rw[step_bags x hk c hbag];exact OGz
 . rw[step_trail x hk c hbag];exact mz.own OS (fun z=>by have:hb+1=hb:=z;omega)
 . rw[step_seals];exact RW.mut mz (by omega)
 · rw [step_seals]
   constructor
   . unfold everN
     split
     . rw[List.length_append,List.length_singleton];omega
     . omega
   . split
     . rw[List.length_append,List.length_singleton];omega
     . omega
end
end Go.Proofs

namespace Go.Proofs
open Go Go.RowKit Go.Sim
set_option maxRecDepth 100000
section
variable {pR pG pS:Option Addr} {cR cG cS:Nat} {s:StrN} {hb m:Nat} {x:LogN} {ever:List Nat} {ve vs:Value}
theorem setL_bag (b:BagN) (k v:Nat) (hk:k < 5):setL (bagC b) k (.int .i64 (v:Int))=bagC (b.put k v):=by
 match k,hk with
 | 0,_=>rfl
 | 1,_=>rfl
 | 2,_=>rfl
 | 3,_=>rfl
 | 4,_=>rfl
theorem put_bag {w:AW} {b:Nat} (f:Fresh w) {y:BagN} (O:Own w b 47 (bagC y)) (k v:Nat) (hk:k < 5) :
    ∃ w',storeV w false 1 (.pointer (some ⟨b,k,none⟩)) (.int .i64 (v:Int))=some w'/\Own w' b 47 (bagC (y.put k v))/\MutS (fun j=>j=b) w w'/\w'.next=w.next:=by
 obtain⟨w',a,b',c,d⟩:=store_one (v:=.int .i64 (v:Int)) (o:=k) f O (by rw[bagC_len];exact hk) rfl
 rw[setL_bag y k v hk]at b'
 exact⟨w',a,b',c,d⟩
theorem owes_goH {A B:Prop} {x:Tok (A,B)} (h:A) (k:B):Owes true A B x:=⟨fun _=>h,k⟩
set_option maxHeartbeats 64000000 in
theorem do_c26 (hs:strB s=true) (c:CarN) (hc:CarOk s c) (ht:CarT c) (hI:LogIn s x) (hm:m≤1000) (h0:stepE s x c=0) (w0:AW) (h:HallAt w0 pR pG pS cR cG cS s hb m x ever ve vs) (w:AW) (g:Grown w0 w) (bc bb:Nat) (hbc:w0.next≤bc) (hbb:bc < bb)
    (OC:Own w bc 62 (carC c)) (OB:Own w bb 47 (bagC (x.bag c.bag)))
    (t:Tmps) (e0:ev t (.tmp 0)=.pointer (some ⟨hb+2,0,none⟩)) (e3:ev t (.tmp 3)=.pointer (some ⟨bc,0,none⟩)) (e4:ev t (.tmp 4)=.slice (some ⟨hb,0,none⟩) 32 32) (e5:ev t (.tmp 5)=.slice (some ⟨hb+1,0,none⟩) 32 32) (e6:ev t (.tmp 6)=.pointer (some ⟨bb,0,none⟩)) :
    CodeR Tryz.prog Tryz.T1 { fn:=108,round:=none } Tryz.s108_c26 t [] w (fun e t ds w'=>Sim.Left (P:=Tryz.prog) Tryz.f108.results.toList e t ds w' (fun _ w'=>DoneH pR pG pS cR cG cS s hb m x c ever w0 w')) .mk:=by
 have hrl:=(str_rooms hs).2
 have hbag:=hc.bag
 have hB32:=h.ok.bags
 have hT32:=h.ok.trails
 have hkI:(c.bag:Int) < 32:=by omega
 have hcto:=hc.to
 have hin:=hI.bag h.ok c.bag hbag
 have hlt:=h.own.lt
 have hshT:=full_shl (n:=c.to) (by omega)
 have hshR:=full_shl (n:=(x.bag c.bag).room) (by omega)
 have h0T:¬ (c.to:Int) < 0:=by omega
 have h0R:¬ ((x.bag c.bag).room:Int) < 0:=by omega
 have hpT:=pow_lt6 (a:=c.to) (by omega)
 have hpR:=pow_lt6 (a:=(x.bag c.bag).room) (by omega)
 have htl:=trail_lt hI h.ok hbag
 have hsn:=same_s12V (some ⟨hb+1,0,none⟩) 32 32
 have hsE:same 12 ve ve=true:=by
  obtain⟨p,cc,e,_⟩:=(RowS.arr h.evr (by have:=h.few.1;omega)).open
  rw[e]
  exact same_s12V _ _ _
 have hsS:same 12 vs vs=true:=by
  obtain⟨p,cc,e,_⟩:=(RowS.arr h.sls (by have:=h.few.2;omega)).open
  rw[e]
  exact same_s12V _ _ _
 obtain⟨w4,st4,O4,m4,hn4⟩:=put_bag g.2 OB 3 c.ca (by omega)
 obtain⟨w5,st5,O5,m5,hn5⟩:=put_bag m4.fresh O4 4 c.cb (by omega)
 have hgn:=g.1.next
 have m35:=m4.trans m5 (Within.refl _ _)
 have g5:Grown w0 w5:=⟨g.1.trans (m35.keep (fun j q=>by have:j=bb:=q;omega) hgn),m35.fresh⟩
 have f5:=g5.2
 have OC4:=m4.own OC (fun z=>by have:bc=bb:=z;omega)
 have OC5:=m5.own OC4 (fun z=>by have:bc=bb:=z;omega)
 have a4:=OC.cell (o:=4) (v:=.int .i64 (c.ca:Int)) rfl rfl
 have a5:=OC.cell (o:=5) (v:=.int .i64 (c.cb:Int)) rfl rfl
 have b5:=OC4.cell (o:=5) (v:=.int .i64 (c.cb:Int)) rfl rfl
 have c1:=OC5.cell (o:=1) (v:=.int .i64 (c.kind:Int)) rfl rfl
 have c2:=OC5.cell (o:=2) (v:=.int .i64 (c.bag:Int)) rfl rfl
 have c3:=OC5.cell (o:=3) (v:=.int .i64 (c.to:Int)) rfl rfl
 have c6:=OC5.cell (o:=6) (v:=.int .i64 (c.sl:Int)) rfl rfl
 have c7:=OC5.cell (o:=7) (v:=.int .i64 (c.suits:Int)) rfl rfl
 have H5:=h.grown g5
 have hkk:c.kind=1 \/ c.kind=2 \/ c.kind=3 \/ c.kind=4 \/ c.kind=5:=by have:=ht.lo;have:=ht.hi;omega
 have hK5:Keep hb w0 w5:=keepB g5 (by omega)
 have hn5w:=g5.1.next
 have since:=fun (v:Nat) w' (f':Fresh w') (O:Own w' (hb+1) 3 ((natsL x.trails).flatMap icells))=>store_one (v:=.int .i64 (v:Int)) (o:=c.bag) f' O (by rw[icells_flat_len,natsL_len,hT32];exact hbag) rfl
 delta Tryz.s108_c26 zo zt zg zh zon ztn zgn zhn zv zk
 simp -dsimp -implicitDefEqProofs (maxSteps:=2000000) (disch:=first|assumption|omega|simp only[nx];omega|(repeat apply zfp);assumption|simp only[smA];done|simp[oneCell,znp]) only[go_sem,e0,e3,e4,e5,e6]
 show CodeT _ _ _ _ _ _ _ _
 refine codeT_regX Tryz.x108r3_eq Tryz.x108r3_kinds ?_
 unfold Tryz.x108r3
 simp -dsimp -implicitDefEqProofs (maxSteps:=2000000) (disch:=first|assumption|omega|simp only[nx];omega|(repeat apply zfp);assumption|simp only[smA];done|simp[oneCell,znp]) only[go_sem,e0,e3,e4,e5,e6,a4,a5,st4,Nat.zero_add]
 refine⟨⟨.inr fun inf hinf=>?_,.inl (show Nat.testBit 19 1=true by decide),trivial⟩,?_⟩
 . rw[Tryz.ty3]at hinf
   injection hinf with hinf
   subst hinf
   simp -dsimp -implicitDefEqProofs (maxSteps:=2000000) (disch:=first|assumption|omega|simp only[nx];omega|(repeat apply zfp);assumption|simp only[smA];done|simp[oneCell,znp]) only[go_sem,Nat.zero_add,a5,b5]
 simp -dsimp -implicitDefEqProofs (maxSteps:=2000000) (disch:=first|assumption|omega|simp only[nx];omega|(repeat apply zfp);assumption|simp only[smA];done|simp[oneCell,znp]) only[go_sem,e0,e3,e4,e5,e6,st5,Nat.zero_add]
 refine⟨⟨.inl (show Nat.testBit 127 3=true by decide),.inl (show Nat.testBit 127 1=true by decide),trivial⟩,?_⟩
 rcases hkk with q|q|q|q|q
 · -- into a room
   have hqI:(c.kind:Int)=1:=by omega
   rw[hqI]at c1
   obtain⟨w6,st6,O6,m6,hn6⟩:=put_bag f5 O5 0 c.to (by omega)
   obtain⟨w7,st7,O7,m7,hn7⟩:=put_bag m6.fresh O6 1 c.sl (by omega)
   obtain⟨w8,st8,O8,m8,hn8⟩:=put_bag m7.fresh O7 2 c.suits (by omega)
   have hy:(((((x.bag c.bag).put 3 c.ca).put 4 c.cb).put 0 c.to).put 1 c.sl).put 2 c.suits=bagB x c:=by unfold bagB;rw[if_pos q];rfl
   have hv:trailB x c=2 ^ c.to:=by unfold trailB;rw[if_pos q]
   have OC6:=m6.own OC5 (fun z=>by have:bc=bb:=z;omega)
   have OC7:=m7.own OC6 (fun z=>by have:bc=bb:=z;omega)
   have OC8:=m8.own OC7 (fun z=>by have:bc=bb:=z;omega)
   have d6:=OC6.cell (o:=6) (v:=.int .i64 (c.sl:Int)) rfl rfl
   have d7:=OC6.cell (o:=7) (v:=.int .i64 (c.suits:Int)) rfl rfl
   have d17:=OC7.cell (o:=7) (v:=.int .i64 (c.suits:Int)) rfl rfl
   have m58:=(m6.trans m7 (Within.refl _ _)).trans m8 (Within.refl _ _)
   have g8:Grown w0 w8:=⟨g5.1.trans (m58.keep (fun j z=>by have:j=bb:=z;omega) hn5w),m58.fresh⟩
   have hn8w:=g8.1.next
   have H8:=h.grown g8
   have f8:=g8.2
   obtain⟨_,_,p4,_,_⟩:=H8.cells
   have x2:=OC8.cell (o:=2) (v:=.int .i64 (c.bag:Int)) rfl rfl
   have g89:=(Grown.refl f8).push (.cells [.int .i64 (c.bag:Int)] 3 w8.next 0 0)
   have OX9:=Own.new f8 3 [.int .i64 (c.bag:Int)]
   have hn9:(w8.push (.cells [.int .i64 (c.bag:Int)] 3 w8.next 0 0)).next=w8.next+1:=AW.next_push _ _
   obtain⟨w9,hw9⟩:∃ w9,w8.push (.cells [.int .i64 (c.bag:Int)] 3 w8.next 0 0)=w9:=⟨_,rfl⟩
   rw[hw9]at g89 OX9 hn9
   have H9:=H8.grown g89
   have f9:=g89.2
   have OC9:=OC8.keep g89.1
   obtain⟨_,_,_,p5,_⟩:=H9.cells
   have x6:=OC9.cell (o:=6) (v:=.int .i64 (c.sl:Int)) rfl rfl
   have g910:=(Grown.refl g89.2).push (.cells [.int .i64 (c.sl:Int)] 3 w9.next 0 0)
   have OY10:=Own.new g89.2 3 [.int .i64 (c.sl:Int)]
   have hn10:(w9.push (.cells [.int .i64 (c.sl:Int)] 3 w9.next 0 0)).next=w9.next+1:=AW.next_push _ _
   obtain⟨w10,hw10⟩:∃ w10,w9.push (.cells [.int .i64 (c.sl:Int)] 3 w9.next 0 0)=w10:=⟨_,rfl⟩
   rw[hw10]at g910 OY10 hn10
   have H10:=H9.grown g910
   have OC10:=OC9.keep g910.1
   have OX10:=OX9.keep g910.1
   have O10:=(O8.keep g89.1).keep g910.1
   have hever:everN c ever=ever++[c.bag]:=by unfold everN;rw[if_pos q]
   have hseal:sealN x c=x.seals++[c.sl]:=if_pos (.inl q)
   obtain⟨v11,w11,ap11,R11,K11,A11,F11⟩:=H10.rows.add g910.2 (by omega) (by have:=h.few.1;omega) w8.next c.bag (OX10.cell (o:=0) rfl rfl)
   have hn11:=A11.next
   obtain⟨v12,w12,ap12,R12,K12,A12,F12⟩:=R11.swap.add F11 (by omega) (by have:=h.few.2;omega) w9.next c.sl ((OY10.app A11).cell (o:=0) rfl rfl)
   have hn12:=A12.next
   have R12:=R12.swap
   rw[<- hever,<- hseal]at R12
   have AA:=A11.trans A12
   have OH11:=H10.own.app A11
   have y5:=OH11.cell (o:=5) (v:=vs) rfl (AOwn.one h.sls)
   have y6:=(OC10.app A11).cell (o:=6) (v:=.int .i64 (c.sl:Int)) rfl rfl
   obtain⟨w13,st13,OH13,m13,hn13⟩:=store_one (v:=v11) (o:=4) F12 (H10.own.app AA) (by simp[strC]) (AOwn.one R12.left)
   have hset1:setL (strC pR pG pS cR cG cS s++[.slice (some ⟨hb,0,none⟩) 32 32,ve,vs,.slice (some ⟨hb+1,0,none⟩) 32 32]) 4 v11=strC pR pG pS cR cG cS s++[.slice (some ⟨hb,0,none⟩) 32 32,v11,vs,.slice (some ⟨hb+1,0,none⟩) 32 32]:=rfl
   rw[hset1]at OH13
   obtain⟨w14,st14,OH14,m14,hn14⟩:=store_one (v:=v12) (o:=5) m13.fresh OH13 (by simp[strC]) (AOwn.one R12.swap.left)
   have hset2:setL (strC pR pG pS cR cG cS s++[.slice (some ⟨hb,0,none⟩) 32 32,v11,vs,.slice (some ⟨hb+1,0,none⟩) 32 32]) 5 v12=strC pR pG pS cR cG cS s++[.slice (some ⟨hb,0,none⟩) 32 32,v11,v12,.slice (some ⟨hb+1,0,none⟩) 32 32]:=rfl
   rw[hset2]at OH14
   have mH:=m13.trans m14 (Within.refl _ _)
   have OC14:=mH.own (OC10.app AA) (fun z=>by have:bc=hb+2:=z;omega)
   have O14:=mH.own (O10.app AA) (fun z=>by have:bb=hb+2:=z;omega)
   have OG14:=mH.own (H10.bags.app AA) (fun z=>by have:hb=hb+2:=z;omega)
   have OS14:=mH.own (H10.since.app AA) (fun z=>by have:hb+1=hb+2:=z;omega)
   have z2:=OC14.cell (o:=2) (v:=.int .i64 (c.bag:Int)) rfl rfl
   have z3:=OC14.cell (o:=3) (v:=.int .i64 (c.to:Int)) rfl rfl
   rw[hy]at O14
   obtain⟨w15,st15,OS15,m15,hn15⟩:=since (2 ^ c.to) w14 mH.fresh OS14
   rw[setL_ic,<- nats_set,<- hv]at OS15
   have hRW:=(R12.mut mH (by omega)).mut m15 (by omega)
   have hK:=((keepB g8 (B:=hb) (by omega)).trans ((keepB (g89.trans g910) (B:=hb) (by omega)).trans ((K11.mono (by omega)).trans (K12.mono (by omega))))).trans ((mH.keep (B:=hb) (fun j z=>by have:j=hb+2:=z;omega) (by omega)).trans (m15.keep (B:=hb) (fun j z=>by have:j=hb+1:=z;omega) (by omega)))
   generalize 2 ^ c.to=PT at *
   simp -dsimp -implicitDefEqProofs (maxSteps:=2000000) (disch:=first|assumption|omega|simp only[nx];omega|(repeat apply zfp);assumption|simp only[smA];done|simp[oneCell,znp]) only[go_sem,e0,e3,e4,e5,e6,c1,Nat.zero_add,Nat.mul_one]
   show CodeT _ _ _ _ _ _ _ _
   refine codeT_regX Tryz.x108r7_eq Tryz.x108r7_kinds ?_
   unfold Tryz.x108r7
   simp -dsimp -implicitDefEqProofs (maxSteps:=2000000) (disch:=first|assumption|omega|simp only[nx];omega|(repeat apply zfp);assumption|simp only[smA];done|simp[oneCell,znp]) only[go_sem,e0,e3,e4,e5,e6,c3,c6,c7,st6,Nat.zero_add]
   refine⟨⟨.inr fun inf hinf=>?_,.inr fun inf hinf=>?_,.inl (show Nat.testBit 67 1=true by decide),trivial⟩,?_⟩
   . rw[Tryz.ty3]at hinf
     injection hinf with hinf
     subst hinf
     simp -dsimp -implicitDefEqProofs (maxSteps:=2000000) (disch:=first|assumption|omega|simp only[nx];omega|(repeat apply zfp);assumption|simp only[smA];done|simp[oneCell,znp]) only[go_sem,Nat.zero_add,c7,d7]
   . rw[Tryz.ty3]at hinf
     injection hinf with hinf
     subst hinf
     simp -dsimp -implicitDefEqProofs (maxSteps:=2000000) (disch:=first|assumption|omega|simp only[nx];omega|(repeat apply zfp);assumption|simp only[smA];done|simp[oneCell,znp]) only[go_sem,Nat.zero_add,c6,d6]
   simp -dsimp -implicitDefEqProofs (maxSteps:=2000000) (disch:=first|assumption|omega|simp only[nx];omega|(repeat apply zfp);assumption|simp only[smA];done|simp[oneCell,znp]) only[go_sem,e0,e3,e4,e5,e6,st7,Nat.zero_add]
   refine⟨⟨.inr fun inf hinf=>?_,.inl (show Nat.testBit 463 3=true by decide),.inl (show Nat.testBit 463 1=true by decide),trivial⟩,?_⟩
   . rw[Tryz.ty3]at hinf
     injection hinf with hinf
     subst hinf
     simp -dsimp -implicitDefEqProofs (maxSteps:=2000000) (disch:=first|assumption|omega|simp only[nx];omega|(repeat apply zfp);assumption|simp only[smA];done|simp[oneCell,znp]) only[go_sem,Nat.zero_add,c7,d17]
   simp -dsimp -implicitDefEqProofs (maxSteps:=2000000) (disch:=first|assumption|omega|simp only[nx];omega|(repeat apply zfp);assumption|simp only[smA];done|simp[oneCell,znp]) only[go_sem,e0,e3,e4,e5,e6,st8,Nat.zero_add]
   refine⟨⟨.inl (show Nat.testBit 2047 5=true by decide),.inl (show Nat.testBit 2047 3=true by decide),.inl (show Nat.testBit 2047 1=true by decide),trivial⟩,?_⟩
   simp -dsimp -implicitDefEqProofs (maxSteps:=2000000) (disch:=first|assumption|omega|simp only[nx];omega|(repeat apply zfp);assumption|simp only[smA];done|simp[oneCell,znp]) only[go_sem,e0,e3,e4,e5,e6,Nat.zero_add]
   show CodeT _ _ _ _ _ _ _ _
   refine codeT_regX Tryz.x108r8_eq Tryz.x108r8_kinds ?_
   unfold Tryz.x108r8
   simp -dsimp -implicitDefEqProofs (maxSteps:=2000000) (disch:=first|assumption|omega|simp only[nx];omega|(repeat apply zfp);assumption|simp only[smA];done|simp[oneCell,znp]) only[go_sem,e0,e3,e4,e5,e6,p4,x2,hsE,hw9,p5,x6,hsS,hw10,ap11,Nat.zero_add]
   refine⟨⟨.inr fun inf hinf=>?_,.inr fun inf hinf=>?_,.inl (show Nat.testBit 508 7=true by decide),.inl (show Nat.testBit 508 5=true by decide),trivial⟩,?_⟩
   . rw[Tryz.ty3]at hinf
     injection hinf with hinf
     subst hinf
     try rw[hw9]
     simp -dsimp -implicitDefEqProofs (maxSteps:=2000000) (disch:=first|assumption|omega|simp only[nx];omega|(repeat apply zfp);assumption|simp only[smA];done|simp[oneCell,znp]) only[go_sem,Nat.zero_add,hw9,x6,y6]
   . rw[Tryz.ty24]at hinf
     injection hinf with hinf
     subst hinf
     try rw[hw9]
     simp -dsimp -implicitDefEqProofs (maxSteps:=2000000) (disch:=first|assumption|omega|simp only[nx];omega|(repeat apply zfp);assumption|simp only[smA];done|simp[oneCell,znp]) only[go_sem,Nat.zero_add,hw9,p5,y5]
   simp -dsimp -implicitDefEqProofs (maxSteps:=2000000) (disch:=first|assumption|omega|simp only[nx];omega|(repeat apply zfp);assumption|simp only[smA];done|simp[oneCell,znp]) only[go_sem,e0,e3,e4,e5,e6,ap12,Nat.zero_add]
   refine⟨⟨.inl (show Nat.testBit 131068 15=true by decide),.inl (show Nat.testBit 131068 13=true by decide),.inl (show Nat.testBit 131068 7=true by decide),.inl (show Nat.testBit 131068 5=true by decide),trivial⟩,?_⟩
   simp -dsimp -implicitDefEqProofs (maxSteps:=2000000) (disch:=first|assumption|omega|simp only[nx];omega|(repeat apply zfp);assumption|simp only[smA];done|simp[oneCell,znp]) only[go_sem,e0,e3,e4,e5,e6,st13,Nat.zero_add]
   refine⟨⟨.inl (show Nat.testBit 1048573 15=true by decide),.inl (show Nat.testBit 1048573 13=true by decide),.inl (show Nat.testBit 1048573 7=true by decide),.inl (show Nat.testBit 1048573 5=true by decide),trivial⟩,?_⟩
   simp -dsimp -implicitDefEqProofs (maxSteps:=2000000) (disch:=first|assumption|omega|simp only[nx];omega|(repeat apply zfp);assumption|simp only[smA];done|simp[oneCell,znp]) only[go_sem,e0,e3,e4,e5,e6,st14,Nat.zero_add]
   refine⟨⟨.inl (show Nat.testBit 8388607 15=true by decide),.inl (show Nat.testBit 8388607 13=true by decide),.inl (show Nat.testBit 8388607 7=true by decide),.inl (show Nat.testBit 8388607 5=true by decide),trivial⟩,?_⟩
   simp -dsimp -implicitDefEqProofs (maxSteps:=2000000) (disch:=first|assumption|omega|simp only[nx];omega|(repeat apply zfp);assumption|simp only[smA];done|simp[oneCell,znp]) only[go_sem,e0,e3,e4,e5,e6,z2,z3,h0T,hshT,hsn,indexV_eq,hkI,st15,Nat.zero_add,Nat.mul_one]
   refine owes_goH ?hA0 ?hB0
   case hA0=>simp -dsimp -implicitDefEqProofs (maxSteps:=2000000) (disch:=first|assumption|omega|simp only[nx];omega|(repeat apply zfp);assumption|simp only[smA];done|simp[oneCell,znp]) only[go_sem,e5,hsn]
   simp -dsimp -implicitDefEqProofs (maxSteps:=2000000) (disch:=first|assumption|omega|simp only[nx];omega|(repeat apply zfp);assumption|simp only[smA];done|simp[oneCell,znp]) only[go_sem,e0,e3,e4,e5,e6,z2,z3,h0T,hshT,hsn,indexV_eq,hkI,st15,Nat.zero_add,Nat.mul_one]
   exact do_c120 c hc ht h0 h.ok h.evo h.few w0 w15 m15.fresh hK (by omega) bc bb _ _ (m15.own OC14 (fun z=>by have:bc=hb+1:=z;omega)) (m15.own O14 (fun z=>by have:bb=hb+1:=z;omega)) (m15.own OH14 (fun z=>by have:hb+2=hb+1:=z;omega)) (m15.own OG14 (fun z=>by have:hb=hb+1:=z;omega)) OS15 hRW _ (by(simp only[go_sem,e3];try rfl)) (by(simp only[go_sem,e4];try rfl)) (by(simp only[go_sem,e6];try rfl))
 · -- into another one
   have hqI:(c.kind:Int)=2:=by omega
   rw[hqI]at c1
   obtain⟨w6,st6,O6,m6,hn6⟩:=put_bag f5 O5 0 c.to (by omega)
   have hy:(((x.bag c.bag).put 3 c.ca).put 4 c.cb).put 0 c.to=bagB x c:=by unfold bagB;rw[if_neg (by omega),if_pos q];rfl
   rw[hy]at O6
   have hv:trailB x c=x.trail c.bag ||| 2 ^ c.to:=by unfold trailB;rw[if_neg (by omega),if_pos q]
   have g6:Grown w0 w6:=⟨g5.1.trans (m6.keep (fun j z=>by have:j=bb:=z;omega) hn5w),m6.fresh⟩
   have H6:=h.grown g6
   have OC6:=m6.own OC5 (fun z=>by have:bc=bb:=z;omega)
   have d2:=OC6.cell (o:=2) (v:=.int .i64 (c.bag:Int)) rfl rfl
   have d3:=OC6.cell (o:=3) (v:=.int .i64 (c.to:Int)) rfl rfl
   have cS:=H6.since.icell (i:=c.bag) (by rw[natsL_len,hT32];exact hbag)
   have hW:W (natsL x.trails) c.bag=(x.trail c.bag:Int):=by
    have hl:c.bag < x.trails.length:=by omega
    simp[W,natsL,LogN.trail,List.getD,hl]
   rw[hW]at cS
   have hwi:=with_ok (x.trail c.bag) (2 ^ c.to) (by omega) (by omega) w6
   rw[<- hv]at hwi
   obtain⟨w7,st7,OS7,m7,hn7⟩:=since (trailB x c) w6 g6.2 H6.since
   rw[setL_ic,<- nats_set]at OS7
   have hever:everN c ever=ever:=by unfold everN;rw[if_neg (by omega)]
   have hseal:sealN x c=x.seals:=if_neg (by omega)
   have hRW:=H6.rows.mut m7 (by omega)
   rw[<- hever,<- hseal]at hRW
   have hle6:WLe w6 w6:=(Grown.refl g6.2).1.wle g6.2
   have hK6:=keepB g6 (B:=hb) (by omega)
   generalize 2 ^ c.to=PT at *
   simp -dsimp -implicitDefEqProofs (maxSteps:=2000000) (disch:=first|assumption|omega|simp only[nx];omega|(repeat apply zfp);assumption|simp only[smA];done|simp[oneCell,znp]) only[go_sem,e0,e3,e4,e5,e6,c1,c3,st6,d2,d3,cS,h0T,hshT,hsn,indexV_eq,hkI,Nat.zero_add,Nat.mul_one]
   apply callV_of (e:=rfl)
   . exact hwi
   rintro _ _ ⟨rfl,rfl⟩
   simp -dsimp -implicitDefEqProofs (maxSteps:=2000000) (disch:=first|assumption|omega|simp only[nx];omega|(repeat apply zfp);assumption|simp only[smA];done|simp[oneCell,znp]) only[go_sem,e0,e3,e4,e5,e6,hle6,hsn,indexV_eq,hkI,st7,Nat.zero_add,Nat.mul_one]
   exact do_c120 c hc ht h0 h.ok h.evo h.few w0 w7 m7.fresh (hK6.trans (m7.keep (fun j z=>by have:j=hb+1:=z;omega) (by omega))) (by omega) bc bb _ _ (m7.own OC6 (fun z=>by have:bc=hb+1:=z;omega)) (m7.own O6 (fun z=>by have:bb=hb+1:=z;omega)) (m7.own H6.own (fun z=>by have:hb+2=hb+1:=z;omega)) (m7.own H6.bags (fun z=>by have:hb=hb+1:=z;omega)) OS7 hRW _ (by(simp only[go_sem,e3];try rfl)) (by(simp only[go_sem,e4];try rfl)) (by(simp only[go_sem,e6];try rfl))
 . -- a check
   have hqI:(c.kind:Int)=3:=by omega
   rw[hqI]at c1
   have hy:bagB x c=((x.bag c.bag).put 3 c.ca).put 4 c.cb:=by unfold bagB;rw[if_neg (by omega),if_neg (by omega),if_pos q];rfl
   have hv:trailB x c=2 ^ (x.bag c.bag).room:=by unfold trailB;rw[if_neg (by omega),if_neg (by omega),if_pos (.inl q)]
   obtain⟨w6,st6,OS6,m6,hn6⟩:=since (2 ^ (x.bag c.bag).room) w5 f5 H5.since
   rw[setL_ic,<- nats_set,<- hv]at OS6
   have b0:=O5.cell (o:=0) (v:=.int .i64 ((x.bag c.bag).room:Int)) rfl rfl
   rw[<- hy]at O5
   have hever:everN c ever=ever:=by unfold everN;rw[if_neg (by omega)]
   have hseal:sealN x c=x.seals:=if_neg (by omega)
   have hRW:=H5.rows.mut m6 (by omega)
   rw[<- hever,<- hseal]at hRW
   generalize 2 ^ (x.bag c.bag).room=PR at *
   simp -dsimp -implicitDefEqProofs (maxSteps:=2000000) (disch:=first|assumption|omega|simp only[nx];omega|(repeat apply zfp);assumption|simp only[smA];done|simp[oneCell,znp]) only[go_sem,e0,e3,e4,e5,e6,c1,c2,b0,h0R,hshR,hsn,indexV_eq,hkI,st6,Nat.zero_add,Nat.mul_one]
   exact do_c120 c hc ht h0 h.ok h.evo h.few w0 w6 m6.fresh (hK5.trans (m6.keep (fun j z=>by have:j=hb+1:=z;omega) (by omega))) (by omega) bc bb _ _ (m6.own OC5 (fun z=>by have:bc=hb+1:=z;omega)) (m6.own O5 (fun z=>by have:bb=hb+1:=z;omega)) (m6.own H5.own (fun z=>by have:hb+2=hb+1:=z;omega)) (m6.own H5.bags (fun z=>by have:hb=hb+1:=z;omega)) OS6 hRW _ (by(simp only[go_sem,e3];try rfl)) (by(simp only[go_sem,e4];try rfl)) (by(simp only[go_sem,e6];try rfl))
 . -- another seal
   have hqI:(c.kind:Int)=4:=by omega
   rw[hqI]at c1
   obtain⟨w6,st6,O6,m6,hn6⟩:=put_bag f5 O5 1 c.sl (by omega)
   have hy:(((x.bag c.bag).put 3 c.ca).put 4 c.cb).put 1 c.sl=bagB x c:=by unfold bagB;rw[if_neg (by omega),if_neg (by omega),if_neg (by omega),if_pos q];rfl
   have hv:trailB x c=2 ^ (x.bag c.bag).room:=by unfold trailB;rw[if_neg (by omega),if_neg (by omega),if_pos (.inr q)]
   have g6:Grown w0 w6:=⟨g5.1.trans (m6.keep (fun j z=>by have:j=bb:=z;omega) hn5w),m6.fresh⟩
   have H6:=h.grown g6
   have hn6w:=g6.1.next
   have f6:=g6.2
   have OC6:=m6.own OC5 (fun z=>by have:bc=bb:=z;omega)
   have d6:=OC6.cell (o:=6) (v:=.int .i64 (c.sl:Int)) rfl rfl
   obtain⟨p0,p3,p4,p5,p6⟩:=H6.cells
   have g67:=(Grown.refl g6.2).push (.cells [.int .i64 (c.sl:Int)] 3 w6.next 0 0)
   have OX7:=Own.new g6.2 3 [.int .i64 (c.sl:Int)]
   have hn7:(w6.push (.cells [.int .i64 (c.sl:Int)] 3 w6.next 0 0)).next=w6.next+1:=AW.next_push _ _
   obtain⟨w7,hw7⟩:∃ w7,w6.push (.cells [.int .i64 (c.sl:Int)] 3 w6.next 0 0)=w7:=⟨_,rfl⟩
   rw[hw7]at g67 OX7 hn7
   have H7:=H6.grown g67
   have OC7:=OC6.keep g67.1
   have O7:=O6.keep g67.1
   have hever:everN c ever=ever:=by unfold everN;rw[if_neg (by omega)]
   have hseal:sealN x c=x.seals++[c.sl]:=if_pos (.inr q)
   obtain⟨v8,w8,ap8,R8,K8,A8,F8⟩:=H7.rows.swap.add g67.2 (by omega) (by have:=h.few.2;omega) w6.next c.sl (OX7.cell (o:=0) rfl rfl)
   have R8:=R8.swap
   rw[<- hever,<- hseal]at R8
   obtain⟨w9,st9,OH9,m9,hn9⟩:=store_one (v:=v8) (o:=5) F8 (H7.own.app A8) (by simp[strC]) (AOwn.one R8.swap.left)
   have hset:setL (strC pR pG pS cR cG cS s++[.slice (some ⟨hb,0,none⟩) 32 32,ve,vs,.slice (some ⟨hb+1,0,none⟩) 32 32]) 5 v8=strC pR pG pS cR cG cS s++[.slice (some ⟨hb,0,none⟩) 32 32,ve,v8,.slice (some ⟨hb+1,0,none⟩) 32 32]:=rfl
   rw[hset]at OH9
   have OC9:=m9.own (OC7.app A8) (fun z=>by have:bc=hb+2:=z;omega)
   have O9:=m9.own (O7.app A8) (fun z=>by have:bb=hb+2:=z;omega)
   have OG9:=m9.own (H7.bags.app A8) (fun z=>by have:hb=hb+2:=z;omega)
   have OS9:=m9.own (H7.since.app A8) (fun z=>by have:hb+1=hb+2:=z;omega)
   have d2:=OC9.cell (o:=2) (v:=.int .i64 (c.bag:Int)) rfl rfl
   have b0:=O9.cell (o:=0) (v:=.int .i64 ((x.bag c.bag).room:Int)) rfl rfl
   rw[hy]at O9
   obtain⟨w10,st10,OS10,m10,hn10⟩:=since (2 ^ (x.bag c.bag).room) w9 m9.fresh OS9
   rw[setL_ic,<- nats_set,<- hv]at OS10
   have hn8:=A8.next
   have hRW:=(R8.mut m9 (by omega)).mut m10 (by omega)
   have hK:=((keepB g6 (B:=hb) (by omega)).trans ((keepB g67 (B:=hb) (by omega)).trans (K8.mono (by omega)))).trans ((m9.keep (B:=hb) (fun j z=>by have:j=hb+2:=z;omega) (by omega)).trans (m10.keep (B:=hb) (fun j z=>by have:j=hb+1:=z;omega) (by omega)))
   generalize 2 ^ (x.bag c.bag).room=PR at *
   simp -dsimp -implicitDefEqProofs (maxSteps:=2000000) (disch:=first|assumption|omega|simp only[nx];omega|(repeat apply zfp);assumption|simp only[smA];done|simp[oneCell,znp]) only[go_sem,e0,e3,e4,e5,e6,c1,c6,st6,Nat.zero_add,Nat.mul_one]
   show CodeT _ _ _ _ _ _ _ _
   refine codeT_regX Tryz.x108r17_eq Tryz.x108r17_kinds ?_
   unfold Tryz.x108r17
   simp -dsimp -implicitDefEqProofs (maxSteps:=2000000) (disch:=first|assumption|omega|simp only[nx];omega|(repeat apply zfp);assumption|simp only[smA];done|simp[oneCell,znp]) only[go_sem,e0,e3,e4,e5,e6,p5,d6,hsS,hw7,ap8,Nat.zero_add]
   refine⟨⟨.inl (show Nat.testBit 254 6=true by decide),.inl (show Nat.testBit 254 4=true by decide),trivial⟩,?_⟩
   simp -dsimp -implicitDefEqProofs (maxSteps:=2000000) (disch:=first|assumption|omega|simp only[nx];omega|(repeat apply zfp);assumption|simp only[smA];done|simp[oneCell,znp]) only[go_sem,e0,e3,e4,e5,e6,st9,Nat.zero_add]
   refine⟨⟨.inl (show Nat.testBit 2047 6=true by decide),.inl (show Nat.testBit 2047 4=true by decide),trivial⟩,?_⟩
   simp -dsimp -implicitDefEqProofs (maxSteps:=2000000) (disch:=first|assumption|omega|simp only[nx];omega|(repeat apply zfp);assumption|simp only[smA];done|simp[oneCell,znp]) only[go_sem,e0,e3,e4,e5,e6,d2,b0,h0R,hshR,hsn,indexV_eq,hkI,st10,Nat.zero_add,Nat.mul_one]
   refine owes_goH ?hA1 ?hB1
   case hA1=>simp -dsimp -implicitDefEqProofs (maxSteps:=2000000) (disch:=first|assumption|omega|simp only[nx];omega|(repeat apply zfp);assumption|simp only[smA];done|simp[oneCell,znp]) only[go_sem,e5,hsn]
   simp -dsimp -implicitDefEqProofs (maxSteps:=2000000) (disch:=first|assumption|omega|simp only[nx];omega|(repeat apply zfp);assumption|simp only[smA];done|simp[oneCell,znp]) only[go_sem,e0,e3,e4,e5,e6,d2,b0,h0R,hshR,hsn,indexV_eq,hkI,st10,Nat.zero_add,Nat.mul_one]
   exact do_c120 c hc ht h0 h.ok h.evo h.few w0 w10 m10.fresh hK (by omega) bc bb _ _ (m10.own OC9 (fun z=>by have:bc=hb+1:=z;omega)) (m10.own O9 (fun z=>by have:bb=hb+1:=z;omega)) (m10.own OH9 (fun z=>by have:hb+2=hb+1:=z;omega)) (m10.own OG9 (fun z=>by have:hb=hb+1:=z;omega)) OS10 hRW _ (by(simp only[go_sem,e3];try rfl)) (by(simp only[go_sem,e4];try rfl)) (by(simp only[go_sem,e6];try rfl))
 · -- out
   have hqI:(c.kind:Int)=5:=by omega
   rw[hqI]at c1
   obtain⟨w6,st6,O6,m6,hn6⟩:=put_bag f5 O5 0 0 (by omega)
   obtain⟨w7,st7,O7,m7,hn7⟩:=put_bag m6.fresh O6 1 0 (by omega)
   have hy:((((x.bag c.bag).put 3 c.ca).put 4 c.cb).put 0 0).put 1 0=bagB x c:=by unfold bagB;rw[if_neg (by omega),if_neg (by omega),if_neg (by omega),if_neg (by omega)];rfl
   rw[hy]at O7
   have hv:trailB x c=x.trail c.bag:=by unfold trailB;rw[if_neg (by omega),if_neg (by omega),if_neg (by omega)]
   have hTs:natsL (x.trails.set c.bag (trailB x c))=natsL x.trails:=by
    rw[hv]
    have hl:c.bag < x.trails.length:=by omega
    have:x.trail c.bag=x.trails[c.bag]:=by simp[LogN.trail,List.getD,hl]
    rw[this,List.set_getElem_self]
   have hever:everN c ever=ever:=by unfold everN;rw[if_neg (by omega)]
   have hseal:sealN x c=x.seals:=if_neg (by omega)
   have m57:=m6.trans m7 (Within.refl _ _)
   have g7:Grown w0 w7:=⟨g5.1.trans (m57.keep (fun j z=>by have:j=bb:=z;omega) hn5w),m57.fresh⟩
   have H7:=h.grown g7
   have hOS:=H7.since
   rw[<- hTs]at hOS
   have hRW:=H7.rows
   rw[<- hever,<- hseal]at hRW
   simp only[Int.natCast_zero]at st6 st7
   simp -dsimp -implicitDefEqProofs (maxSteps:=2000000) (disch:=first|assumption|omega|simp only[nx];omega|(repeat apply zfp);assumption|simp only[smA];done|simp[oneCell,znp]) only[go_sem,e0,e3,e4,e5,e6,c1,st6,st7,Nat.zero_add,Nat.mul_one]
   exact do_c120 c hc ht h0 h.ok h.evo h.few w0 w7 g7.2 (keepB g7 (by omega)) (by omega) bc bb _ _ (m57.own OC5 (fun z=>by have:bc=bb:=z;omega)) O7 H7.own H7.bags hOS hRW _ (by(simp only[go_sem,e3];try rfl)) (by(simp only[go_sem,e4];try rfl)) (by(simp only[go_sem,e6];try rfl))
end
end Go.Proofs

namespace Go.Proofs
open Go Go.RowKit Go.Sim
set_option maxRecDepth 100000
attribute [go_sem] Tryz.ty107 Tryz.ty111
attribute [-go_sem] Tryz.ty107 Tryz.ty111
theorem Tryz.ms115:msQ (prg Tryz.prog) 115 (.int .i64 32) (.int .i64 32)=some (x0.bags.flatMap bagC,47,fun b=>.slice (some ⟨b,0,none⟩) 32 32):=by kernel_rfl
theorem Tryz.ms24t:msQ (prg Tryz.prog) 24 (.int .i64 32) (.int .i64 32)=some ((natsL x0.trails).flatMap icells,3,fun b=>.slice (some ⟨b,0,none⟩) 32 32):=by kernel_rfl
theorem bld117 (a b c:Value) (p q:Option Addr):bldQ [(0,3),(3,1),(4,1),(5,1),(6,1)] [.slice none 0 0,.slice none 0 0,.slice none 0 0,.slice none 0 0,.slice none 0 0,.slice none 0 0,.slice none 0 0] [(0,.agg #[a,b,c]),(1,.slice p 32 32),(4,.slice q 32 32)]=some (.agg #[a,b,c,.slice p 32 32,.slice none 0 0,.slice none 0 0,.slice q 32 32]):=by kernel_rfl
theorem same_hall (p q r u v:Option Addr) (a b c d e f:Nat):same 12 (.agg #[.slice p a d,.slice q b e,.slice r c f,.slice u 32 32,.slice none 0 0,.slice none 0 0,.slice v 32 32]) (.agg #[.slice p a d,.slice q b e,.slice r c f,.slice u 32 32,.slice none 0 0,.slice none 0 0,.slice v 32 32])=true:=by
 show same.all 11 [.slice p a d,.slice q b e,.slice r c f,.slice u 32 32,.slice none 0 0,.slice none 0 0,.slice v 32 32] [.slice p a d,.slice q b e,.slice r c f,.slice u 32 32,.slice none 0 0,.slice none 0 0,.slice v 32 32]=true
 simp only[same.all,same_sV 10,Bool.and_self]
section
variable {pR pG pS:Option Addr} {cR cG cS:Nat} {s:StrN} {hb m:Nat} {x:LogN} {ever:List Nat} {ve vs:Value}
set_option maxHeartbeats 64000000 in
theorem do_okR (hs:strB s=true) (c:CarN) (hc:CarOk s c) (ht:CarT c) (hI:LogIn s x) (hm:m≤1000) (h0:stepE s x c=0) (w:AW) (f:Fresh w) (h:HallAt w pR pG pS cR cG cS s hb m x ever ve vs) :
    CallT Tryz.prog Tryz.T1 (.fn (.func 108) #[]) #[.pointer (some ⟨hb+2,0,none⟩),carV c] w (fun _ w'=>DoneH pR pG pS cR cG cS s hb m x c ever w w'):=by
 have hbag:=hc.bag
 have hkI:(c.bag:Int) < 32:=by omega
 have g1:=(Grown.refl f).push (.cells (carC c) 62 w.next 0 0)
 have O1:=Own.new f 62 (carC c)
 have hn1:(w.push (.cells (carC c) 62 w.next 0 0)).next=w.next+1:=AW.next_push _ _
 obtain⟨w1,hw1⟩:∃ w1,w.push (.cells (carC c) 62 w.next 0 0)=w1:=⟨_,rfl⟩
 rw[hw1]at g1 O1 hn1
 have H1:=h.grown g1
 have f1:=g1.2
 have hbr:=H1.bagRow hbag
 have O2:=Own.new f1 47 (bagC ⟨0,0,0,0,0⟩)
 have g2:=(Grown.refl f1).push (.cells (bagC ⟨0,0,0,0,0⟩) 47 w1.next 0 0)
 obtain⟨w2,hw2⟩:∃ w2,w1.push (.cells (bagC ⟨0,0,0,0,0⟩) 47 w1.next 0 0)=w2:=⟨_,rfl⟩
 rw[hw2]at g2 O2
 obtain⟨w3,st3,O3,m3,hn3⟩:=store_new (n:=5) (l:=bagC (x.bag c.bag)) g2.2 O2 rfl rfl (by omega) rfl
 have g13:Grown w1 w3:=⟨g2.1.trans (m3.keep (fun j q=>by have:j=w1.next:=q;omega) g2.1.next),m3.fresh⟩
 have g3:=g1.trans g13
 have O13:=O1.keep g13.1
 obtain⟨_,q3,_,_,q6⟩:=H1.cells
 have d2:=O1.cell (o:=2) (v:=.int .i64 (c.bag:Int)) rfl rfl
 have hsr:=same_s12V (some ⟨hb,0,none⟩) 32 32
 have hsn:=same_s12V (some ⟨hb+1,0,none⟩) 32 32
 have hz5:bagC ⟨0,0,0,0,0⟩=[.int .i64 0,.int .i64 0,.int .i64 0,.int .i64 0,.int .i64 0]:=rfl
 rw[hz5]at hw2
 have hcar:carV c=.agg #[.int .i64 (c.day:Int),.int .i64 (c.kind:Int),.int .i64 (c.bag:Int),.int .i64 (c.to:Int),.int .i64 (c.ca:Int),.int .i64 (c.cb:Int),.int .i64 (c.sl:Int),.int .i64 (c.suits:Int)]:=rfl
 have hcl:carC c=[.int .i64 (c.day:Int),.int .i64 (c.kind:Int),.int .i64 (c.bag:Int),.int .i64 (c.to:Int),.int .i64 (c.ca:Int),.int .i64 (c.cb:Int),.int .i64 (c.sl:Int),.int .i64 (c.suits:Int)]:=rfl
 rw[hcl]at hw1
 rw[hcar]
 refine callT_codeX [3,7,8,17] rfl Tryz.func108 rfl Tryz.s108x_eq rfl ?_
 delta Tryz.s108x zo zt zg zh zon ztn zgn zhn zv zk
 simp -dsimp -implicitDefEqProofs (maxSteps:=2000000) (disch:=first|assumption|omega|simp only[nx];omega|(repeat apply zfp);assumption|simp only[smA];done|simp[oneCell,znp]) only[go_sem,hw1,q3,q6,hsr,hsn,d2,indexV_eq,hkI,hbr,hw2,st3,Nat.zero_add]
 try rw[hw1]
 try rw[hw2]
 exact do_c26 hs c hc ht hI hm h0 w h w3 g3 w.next w1.next (Nat.le_refl _) (by omega) O13 O3 _ (by(simp only[go_sem];try rfl)) (by(simp only[go_sem];try rfl)) (by(simp only[go_sem];try rfl)) (by(simp only[go_sem];try rfl)) (by(simp only[go_sem];try rfl))
set_option maxHeartbeats 64000000 in
theorem hall_ok (w:AW) (f:Fresh w):CallT Tryz.prog Tryz.T1 (.fn (.func 106) #[]) #[.agg (strC pR pG pS cR cG cS s).toArray] w (fun v w'=>∃ hb,v=.pointer (some ⟨hb+2,0,none⟩)/\w.next≤hb/\Grown w w'/\HallAt w' pR pG pS cR cG cS s hb 0 x0 [] (.slice none 0 0) (.slice none 0 0)):=by
 have g1:=(Grown.refl f).push (.cells (strC pR pG pS cR cG cS s) 26 w.next 0 0)
 have O1:=Own.new f 26 (strC pR pG pS cR cG cS s)
 have hn1:(w.push (.cells (strC pR pG pS cR cG cS s) 26 w.next 0 0)).next=w.next+1:=AW.next_push _ _
 obtain⟨w1,hw1⟩:∃ w1,w.push (.cells (strC pR pG pS cR cG cS s) 26 w.next 0 0)=w1:=⟨_,rfl⟩
 rw[hw1]at g1 O1 hn1
 have f1:=g1.2
 have hld:=loadAll O1 (n:=3) rfl (by simp[strC,oneCell])
 have hss:=same_str pR pG pS s.rooms.length s.gates.length s.staff.length cR cG cS
 have O2:=Own.new f1 47 (x0.bags.flatMap bagC)
 have g2:=(Grown.refl f1).push (.cells (x0.bags.flatMap bagC) 47 w1.next 0 0)
 have hn2:(w1.push (.cells (x0.bags.flatMap bagC) 47 w1.next 0 0)).next=w1.next+1:=AW.next_push _ _
 obtain⟨w2,hw2⟩:∃ w2,w1.push (.cells (x0.bags.flatMap bagC) 47 w1.next 0 0)=w2:=⟨_,rfl⟩
 rw[hw2]at g2 O2 hn2
 have f2:=g2.2
 have O3:=Own.new f2 3 ((natsL x0.trails).flatMap icells)
 have g3:=(Grown.refl f2).push (.cells ((natsL x0.trails).flatMap icells) 3 w2.next 0 0)
 have hn3:(w2.push (.cells ((natsL x0.trails).flatMap icells) 3 w2.next 0 0)).next=w2.next+1:=AW.next_push _ _
 obtain⟨w3,hw3⟩:∃ w3,w2.push (.cells ((natsL x0.trails).flatMap icells) 3 w2.next 0 0)=w3:=⟨_,rfl⟩
 rw[hw3]at g3 O3 hn3
 have f3:=g3.2
 have hms1:=Tryz.ms115
 have hms2:=Tryz.ms24t
 have hs1:=same_s12V (some ⟨w1.next,0,none⟩) 32 32
 have hs2:=same_s12V (some ⟨w2.next,0,none⟩) 32 32
 generalize hX1:x0.bags.flatMap bagC=X1 at *
 generalize hX2:(natsL x0.trails).flatMap icells=X2 at *
 unfold strC at *
 refine callT_code rfl Tryz.func106 rfl Tryz.s106_eq rfl ?_
 delta Tryz.s106 zo zt zv zk
 simp -dsimp -implicitDefEqProofs (maxSteps:=2000000) (disch:=first|assumption|omega|simp only[nx];omega|(repeat apply zfp);assumption|simp only[smA];done|simp[oneCell,znp]) only[go_sem,hw1,hld,hss,hms1,hw2,hms2,hw3,hs1,hs2]
 have hb7:=bld117 (.slice pR s.rooms.length cR) (.slice pG s.gates.length cG) (.slice pS s.staff.length cS) (some ⟨w1.next,0,none⟩) (some ⟨w2.next,0,none⟩)
 have hs7:=same_hall pR pG pS (some ⟨w1.next,0,none⟩) (some ⟨w2.next,0,none⟩) s.rooms.length s.gates.length s.staff.length cR cG cS
 simp -dsimp -implicitDefEqProofs (maxSteps:=2000000) (disch:=first|assumption|omega|simp only[nx];omega|(repeat apply zfp);assumption|simp only[smA];done|simp[oneCell,znp]) only[go_sem,hb7,hs7,hw1,hw2,hw3]
 try rw[hw1]
 try rw[hw2]
 try rw[hw3]
 have O4:=Own.new f3 117 [.slice pR s.rooms.length cR,.slice pG s.gates.length cG,.slice pS s.staff.length cS,.slice (some ⟨w1.next,0,none⟩) 32 32,.slice none 0 0,.slice none 0 0,.slice (some ⟨w2.next,0,none⟩) 32 32]
 have g4:=(Grown.refl f3).push (.cells [.slice pR s.rooms.length cR,.slice pG s.gates.length cG,.slice pS s.staff.length cS,.slice (some ⟨w1.next,0,none⟩) 32 32,.slice none 0 0,.slice none 0 0,.slice (some ⟨w2.next,0,none⟩) 32 32] 117 w3.next 0 0)
 have e3:w3.next=w1.next+2:=by omega
 have e2:w2.next=w1.next+1:=hn2
 refine⟨w1.next,by rw[e3],by omega,((g1.trans g2).trans g3).trans g4,⟨?_,?_,?_,RowsH.nil _ _,x0_ok,ever0,by simp[x0]⟩⟩
 . rw[<- e3,<- e2];exact O4
 . rw[hX1];exact (O2.keep g3.1).keep g4.1
 . rw[hX2,<- e2];exact O3.keep g4.1
end
end Go.Proofs

namespace Go.Proofs
open Go Go.RowKit Go.Sim
set_option maxRecDepth 100000
set_option maxHeartbeats 64000000 in
theorem form_ok {s:StrN} (hs:strB s=true) (pR pG pS:Option Addr) (cR cG cS:Nat) (pL:Option Addr) (cL:Nat) (L:List CarI) (w:AW) (f:Fresh w) (hL:ArrOf w 8 carIC (.slice pL L.length cL) L) :
    CallT Tryz.prog Tryz.T1 (.fn (.func 105) #[]) #[.agg (strC pR pG pS cR cG cS s).toArray,.slice pL L.length cL] w (Ret (.bool (areB s L)) (Grown w)):=by
 have g1:=(Grown.refl f).push (.cells (strC pR pG pS cR cG cS s) 26 w.next 0 0)
 have O1:=Own.new f 26 (strC pR pG pS cR cG cS s)
 have hn1:(w.push (.cells (strC pR pG pS cR cG cS s) 26 w.next 0 0)).next=w.next+1:=AW.next_push _ _
 obtain⟨w1,hw1⟩:∃ w1,w.push (.cells (strC pR pG pS cR cG cS s) 26 w.next 0 0)=w1:=⟨_,rfl⟩
 rw[hw1]at g1 O1 hn1
 have hL1:=hL.grown g1
 have hstf:=(str_staff hs).2.1
 have hrms:=str_rooms hs
 have hcap:L.length≤cL/\(cL:Int)≤140737488355328:=by
  obtain⟨_,_,e,h1,h2,_⟩:=hL.open
  injection e with e1 e2 e3
  subst e3
  exact⟨h1,h2⟩
 have hAB:areB s L=(decide (L.length≤64) && daysB s 0 L):=rfl
 unfold strC at *
 refine callT_code rfl Tryz.func105 rfl Tryz.s105_eq rfl ?_
 delta Tryz.s105 zo zg zon zv zk
 simp -dsimp -implicitDefEqProofs (maxSteps:=2000000) (disch:=first|assumption|omega|simp only[nx];omega|(repeat apply zfp);assumption|simp only[smA];done|simp[oneCell,znp]) only[go_sem,hw1]
 try rw[hw1]
 have hst:daysB s 0 L=daysB s (dayAt L 0) (L.drop 0):=rfl
 have h00:dayAt L 0=0:=rfl
 refine loopR (fun k t ds w2=>∃ i:Nat,i≤L.length/\k=L.length - i/\ds=[]/\ev t (.tmp 1)=.slice pL L.length cL/\ev t (.tmp 2)=.pointer (some ⟨w.next,0,none⟩)/\ev t (.tmp 5)=.int .i64 (dayAt L i)/\ev t (.tmp 6)=.int .i64 (i:Int)/\daysB s 0 L=daysB s (dayAt L i) (L.drop i)/\Grown w1 w2) (L.length) ?_ ?_
 . refine⟨0,by omega,by omega,rfl,?_,?_,?_,?_,hst,Grown.refl g1.2⟩ <;> simp -dsimp -implicitDefEqProofs (maxSteps:=2000000) (disch:=first|assumption|omega|simp only[nx];omega|(repeat apply zfp);assumption|simp only[smA];done|simp[oneCell,znp]) only[go_sem,h00] <;> rfl
 rintro k t ds w2 ⟨i,hii,rfl,rfl,e1,e2,e5,e6,hD,gW⟩
 have f2:=gW.2
 have gg:=g1.trans gW
 by_cases hlt:(i:Int) < (L.length:Int)
 case neg =>
  obtain rfl:i=L.length:=by omega
  rw[List.drop_length]at hD
  have hd:decide ((L.length:Int)≤64)=decide (L.length≤64):=by rw[decide_eq_decide];omega
  rw[hAB,hD]
  simp -dsimp -implicitDefEqProofs (maxSteps:=2000000) (disch:=first|assumption|omega|simp only[nx];omega|(repeat apply zfp);assumption|simp only[smA];done|simp[oneCell,znp]) only[go_sem,e1,e2,e5,e6,hlt,hd]
  exact⟨by simp[daysB],gg⟩
 have hi:i < L.length:=by omega
 obtain⟨b4,o4,rfl,hb4,hrow⟩:=arr_row hL1 carIC_len carIC_one hi
 have hld:=hrow w2 gW.1
 rw[List.drop_eq_getElem_cons hi]at hD
 have hsucc:=dayAt_succ hi
 generalize L[i]=c at *
 simp only[daysB]at hD
 have O12:=O1.keep gW.1
 have O3:=Own.new f2 62 (carIC car0)
 have g3:=gW.push (.cells (carIC car0) 62 w2.next 0 0)
 have O13:=O12.push (.cells (carIC car0) 62 w2.next 0 0)
 have hn3:(w2.push (.cells (carIC car0) 62 w2.next 0 0)).next=w2.next+1:=AW.next_push _ _
 obtain⟨w3,hw3⟩:∃ w3,w2.push (.cells (carIC car0) 62 w2.next 0 0)=w3:=⟨_,rfl⟩
 rw[hw3]at O3 g3 O13 hn3
 have hk2:=gW.1.next
 have hOl:=O12.lt
 obtain⟨w4,st4,O4,m4,hn4⟩:=store_new (n:=8) (l:=carIC c) g3.2 O3 rfl rfl (by omega) rfl
 have O14:=m4.own O13 (fun q=>by have:w.next=w2.next:=q;omega)
 have g4:Grown w1 w4:=⟨g3.1.trans (m4.keep (fun j q=>by have:j=w2.next:=q;omega) g3.1.next),m4.fresh⟩
 have gg4:=g1.trans g4
 have d0:=O4.cell (o:=0) (v:=.int .i64 c.day) rfl rfl
 have d1:=O4.cell (o:=1) (v:=.int .i64 c.kind) rfl rfl
 have d2:=O4.cell (o:=2) (v:=.int .i64 c.bag) rfl rfl
 have d3:=O4.cell (o:=3) (v:=.int .i64 c.to) rfl rfl
 have d4:=O4.cell (o:=4) (v:=.int .i64 c.ca) rfl rfl
 have d5:=O4.cell (o:=5) (v:=.int .i64 c.cb) rfl rfl
 have d6:=O4.cell (o:=6) (v:=.int .i64 c.sl) rfl rfl
 have d7:=O4.cell (o:=7) (v:=.int .i64 c.suits) rfl rfl
 have p0:=O14.cell (o:=0) (v:=.slice pR s.rooms.length cR) rfl rfl
 have p2:=O14.cell (o:=2) (v:=.slice pS s.staff.length cS) rfl rfl
 have hsu:suB c.kind=decide (c.kind=1):=rfl
 have hto:toB c.kind=(decide (c.kind=1) || decide (c.kind=2)):=rfl
 have hsl:slB c.kind=(decide (c.kind=1) || (decide (c.kind=3) || decide (c.kind=4))):=rfl
 have hcB:carryB s c=(inR 1 c.kind 5 && (inR 0 c.bag 31 && (inR 0 c.ca ((s.staff.length:Int) - 1) && (inR 0 c.cb ((s.staff.length:Int) - 1) && (!decide (c.ca=c.cb) &&
  (fieldB c.to (toB c.kind) ((s.rooms.length:Int) - 1) && (fieldB c.sl (slB c.kind) 999999 && fieldB c.suits (suB c.kind) 15))))))):=rfl
 have hz8:carIC car0=[.int .i64 0,.int .i64 0,.int .i64 0,.int .i64 0,.int .i64 0,.int .i64 0,.int .i64 0,.int .i64 0]:=rfl
 rw[hz8]at hw3
 have hcc:carIC c=[.int .i64 c.day,.int .i64 c.kind,.int .i64 c.bag,.int .i64 c.to,.int .i64 c.ca,.int .i64 c.cb,.int .i64 c.sl,.int .i64 c.suits]:=rfl
 apply joinC (F:=fun t=>ev t (.tmp 1)=.slice (some ⟨b4,o4,none⟩) L.length cL/\ev t (.tmp 2)=.pointer (some ⟨w.next,0,none⟩)/\ev t (.tmp 5)=.int .i64 (dayAt L i)/\ev t (.tmp 6)=.int .i64 (i:Int)/\ev t (.tmp 7)=.pointer (some ⟨w2.next,0,none⟩)/\ev t (.tmp 8)=.bool (suB c.kind)/\ev t (.tmp 9)=.bool (toB c.kind)/\ev t (.tmp 10)=.bool (slB c.kind)) (w:=w4)
 case mainC =>
  intro go
  rw[hsu,hto,hsl]at go
  cases k1:decide (c.kind=1) <;> cases k2:decide (c.kind=2) <;> cases k3:decide (c.kind=3) <;> cases k4:decide (c.kind=4)
  all_goals
   rw[k1,k2,k3,k4]at go
   simp -dsimp -implicitDefEqProofs (maxSteps:=2000000) (disch:=first|assumption|omega|simp only[nx];omega|(repeat apply zfp);assumption|simp only[smA];done|simp[oneCell,znp]) only[go_sem,e1,e2,e5,e6,hlt,indexV_eq,hld,hw3,st4,d1,k1,k2,k3,k4,Nat.zero_add]
   exact joinC_use go ⟨by(simp only[go_sem,e1];try rfl),by(simp only[go_sem,e2];try rfl),by(simp only[go_sem,e5];try rfl),by(simp only[go_sem,e6];try rfl),by(simp only[go_sem];try rfl),by(simp only[go_sem];try rfl),by(simp only[go_sem];try rfl),by(simp only[go_sem];try rfl)⟩
 case restC =>
 clear e1 e2 e5 e6
 rintro t ⟨e1,e2,e5,e6,e7,e8,e9,e10⟩
 delta Tryz.s105_c42 zo zg zv zk
 apply joinC (F:=fun t=>ev t (.tmp 1)=.slice (some ⟨b4,o4,none⟩) L.length cL/\ev t (.tmp 2)=.pointer (some ⟨w.next,0,none⟩)/\ev t (.tmp 6)=.int .i64 (i:Int)/\ev t (.tmp 7)=.pointer (some ⟨w2.next,0,none⟩)/\ev t (.tmp 8)=.bool (suB c.kind)/\ev t (.tmp 9)=.bool (toB c.kind)/\ev t (.tmp 10)=.bool (slB c.kind)/\ev t (.tmp 11)=.bool (inR (dayAt L i) c.day 36500 && (inR 1 c.kind 5 && (inR 0 c.bag 31 && (inR 0 c.ca ((s.staff.length:Int) - 1) && (inR 0 c.cb ((s.staff.length:Int) - 1) && !decide (c.ca=c.cb))))))) (w:=w4)
 case mainC =>
  intro go
  simp -dsimp -implicitDefEqProofs (maxSteps:=2000000) (disch:=first|assumption|omega|simp only[nx];omega|(repeat apply zfp);assumption|simp only[smA];done|simp[oneCell,znp]) only[go_sem,e1,e2,e5,e6,e7,e8,e9,e10,d0,Nat.zero_add]
  apply callV_of (e:=rfl)
  . exact From_ok (dayAt L i) c.day 36500 w4
  rintro _ _ ⟨rfl,rfl⟩
  cases h1:inR (dayAt L i) c.day 36500 with
  | false =>
   rw[h1]at go
   simp -dsimp -implicitDefEqProofs (maxSteps:=2000000) (disch:=first|assumption|omega|simp only[nx];omega|(repeat apply zfp);assumption|simp only[smA];done|simp[oneCell,znp]) only[go_sem]
   exact joinC_use go ⟨by(simp only[go_sem,e1];try rfl),by(simp only[go_sem,e2];try rfl),by(simp only[go_sem,e6];try rfl),by(simp only[go_sem,e7];try rfl),by(simp only[go_sem,e8];try rfl),by(simp only[go_sem,e9];try rfl),by(simp only[go_sem,e10];try rfl),by(simp -dsimp -implicitDefEqProofs (maxSteps:=2000000) (disch:=first|assumption|omega|simp only[nx];omega|(repeat apply zfp);assumption|simp only[smA];done|simp[oneCell,znp]) only[go_sem,h1];try rfl)⟩
  | true =>
  rw[h1]at go
  simp -dsimp -implicitDefEqProofs (maxSteps:=2000000) (disch:=first|assumption|omega|simp only[nx];omega|(repeat apply zfp);assumption|simp only[smA];done|simp[oneCell,znp]) only[go_sem,e7,d1,Nat.zero_add]
  apply callV_of (e:=rfl)
  . exact From_ok 1 c.kind 5 w4
  rintro _ _ ⟨rfl,rfl⟩
  cases h2:inR 1 c.kind 5 with
  | false =>
   rw[h2]at go
   simp -dsimp -implicitDefEqProofs (maxSteps:=2000000) (disch:=first|assumption|omega|simp only[nx];omega|(repeat apply zfp);assumption|simp only[smA];done|simp[oneCell,znp]) only[go_sem]
   exact joinC_use go ⟨by(simp only[go_sem,e1];try rfl),by(simp only[go_sem,e2];try rfl),by(simp only[go_sem,e6];try rfl),by(simp only[go_sem,e7];try rfl),by(simp only[go_sem,e8];try rfl),by(simp only[go_sem,e9];try rfl),by(simp only[go_sem,e10];try rfl),by(simp -dsimp -implicitDefEqProofs (maxSteps:=2000000) (disch:=first|assumption|omega|simp only[nx];omega|(repeat apply zfp);assumption|simp only[smA];done|simp[oneCell,znp]) only[go_sem,h2];try rfl)⟩
  | true =>
  rw[h2]at go
  simp -dsimp -implicitDefEqProofs (maxSteps:=2000000) (disch:=first|assumption|omega|simp only[nx];omega|(repeat apply zfp);assumption|simp only[smA];done|simp[oneCell,znp]) only[go_sem,e7,d2,Nat.zero_add]
  apply callV_of (e:=rfl)
  . exact From_ok 0 c.bag 31 w4
  rintro _ _ ⟨rfl,rfl⟩
  cases h3:inR 0 c.bag 31 with
  | false =>
   rw[h3]at go
   simp -dsimp -implicitDefEqProofs (maxSteps:=2000000) (disch:=first|assumption|omega|simp only[nx];omega|(repeat apply zfp);assumption|simp only[smA];done|simp[oneCell,znp]) only[go_sem]
   exact joinC_use go ⟨by(simp only[go_sem,e1];try rfl),by(simp only[go_sem,e2];try rfl),by(simp only[go_sem,e6];try rfl),by(simp only[go_sem,e7];try rfl),by(simp only[go_sem,e8];try rfl),by(simp only[go_sem,e9];try rfl),by(simp only[go_sem,e10];try rfl),by(simp -dsimp -implicitDefEqProofs (maxSteps:=2000000) (disch:=first|assumption|omega|simp only[nx];omega|(repeat apply zfp);assumption|simp only[smA];done|simp[oneCell,znp]) only[go_sem,h3];try rfl)⟩
  | true =>
  rw[h3]at go
  simp -dsimp -implicitDefEqProofs (maxSteps:=2000000) (disch:=first|assumption|omega|simp only[nx];omega|(repeat apply zfp);assumption|simp only[smA];done|simp[oneCell,znp]) only[go_sem,e2,e7,d4,p2,Nat.zero_add]
  apply callV_of (e:=rfl)
  . exact From_ok 0 c.ca ((s.staff.length:Int) - 1) w4
  rintro _ _ ⟨rfl,rfl⟩
  cases h4:inR 0 c.ca ((s.staff.length:Int) - 1) with
  | false =>
   rw[h4]at go
   simp -dsimp -implicitDefEqProofs (maxSteps:=2000000) (disch:=first|assumption|omega|simp only[nx];omega|(repeat apply zfp);assumption|simp only[smA];done|simp[oneCell,znp]) only[go_sem]
   exact joinC_use go ⟨by(simp only[go_sem,e1];try rfl),by(simp only[go_sem,e2];try rfl),by(simp only[go_sem,e6];try rfl),by(simp only[go_sem,e7];try rfl),by(simp only[go_sem,e8];try rfl),by(simp only[go_sem,e9];try rfl),by(simp only[go_sem,e10];try rfl),by(simp -dsimp -implicitDefEqProofs (maxSteps:=2000000) (disch:=first|assumption|omega|simp only[nx];omega|(repeat apply zfp);assumption|simp only[smA];done|simp[oneCell,znp]) only[go_sem,h4];try rfl)⟩
  | true =>
  rw[h4]at go
  simp -dsimp -implicitDefEqProofs (maxSteps:=2000000) (disch:=first|assumption|omega|simp only[nx];omega|(repeat apply zfp);assumption|simp only[smA];done|simp[oneCell,znp]) only[go_sem,e2,e7,d5,p2,Nat.zero_add]
  apply callV_of (e:=rfl)
  . exact From_ok 0 c.cb ((s.staff.length:Int) - 1) w4
  rintro _ _ ⟨rfl,rfl⟩
  cases h5:inR 0 c.cb ((s.staff.length:Int) - 1) with
  | false =>
   rw[h5]at go
   simp -dsimp -implicitDefEqProofs (maxSteps:=2000000) (disch:=first|assumption|omega|simp only[nx];omega|(repeat apply zfp);assumption|simp only[smA];done|simp[oneCell,znp]) only[go_sem]
   exact joinC_use go ⟨by(simp only[go_sem,e1];try rfl),by(simp only[go_sem,e2];try rfl),by(simp only[go_sem,e6];try rfl),by(simp only[go_sem,e7];try rfl),by(simp only[go_sem,e8];try rfl),by(simp only[go_sem,e9];try rfl),by(simp only[go_sem,e10];try rfl),by(simp -dsimp -implicitDefEqProofs (maxSteps:=2000000) (disch:=first|assumption|omega|simp only[nx];omega|(repeat apply zfp);assumption|simp only[smA];done|simp[oneCell,znp]) only[go_sem,h5];try rfl)⟩
  | true =>
  rw[h5]at go
  cases h6:decide (c.ca=c.cb) with
  | false =>
   rw[h6]at go
   simp -dsimp -implicitDefEqProofs (maxSteps:=2000000) (disch:=first|assumption|omega|simp only[nx];omega|(repeat apply zfp);assumption|simp only[smA];done|simp[oneCell,znp]) only[go_sem,e2,e7,d4,d5,h6,Nat.zero_add]
   exact joinC_use go ⟨by(simp only[go_sem,e1];try rfl),by(simp only[go_sem,e2];try rfl),by(simp only[go_sem,e6];try rfl),by(simp only[go_sem,e7];try rfl),by(simp only[go_sem,e8];try rfl),by(simp only[go_sem,e9];try rfl),by(simp only[go_sem,e10];try rfl),by(simp -dsimp -implicitDefEqProofs (maxSteps:=2000000) (disch:=first|assumption|omega|simp only[nx];omega|(repeat apply zfp);assumption|simp only[smA];done|simp[oneCell,znp]) only[go_sem,h6];try rfl)⟩
  | true =>
   rw[h6]at go
   simp -dsimp -implicitDefEqProofs (maxSteps:=2000000) (disch:=first|assumption|omega|simp only[nx];omega|(repeat apply zfp);assumption|simp only[smA];done|simp[oneCell,znp]) only[go_sem,e2,e7,d4,d5,h6,Nat.zero_add]
   exact joinC_use go ⟨by(simp only[go_sem,e1];try rfl),by(simp only[go_sem,e2];try rfl),by(simp only[go_sem,e6];try rfl),by(simp only[go_sem,e7];try rfl),by(simp only[go_sem,e8];try rfl),by(simp only[go_sem,e9];try rfl),by(simp only[go_sem,e10];try rfl),by(simp -dsimp -implicitDefEqProofs (maxSteps:=2000000) (disch:=first|assumption|omega|simp only[nx];omega|(repeat apply zfp);assumption|simp only[smA];done|simp[oneCell,znp]) only[go_sem,h6];try rfl)⟩
 case restC =>
 clear e1 e2 e5 e6 e7 e8 e9 e10
 rintro t ⟨e1,e2,e6,e7,e8,e9,e10,e11⟩
 obtain⟨A6,hA6⟩:∃ b,(inR (dayAt L i) c.day 36500 && (inR 1 c.kind 5 && (inR 0 c.bag 31 && (inR 0 c.ca ((s.staff.length:Int) - 1) && (inR 0 c.cb ((s.staff.length:Int) - 1) && !decide (c.ca=c.cb))))))=b:=⟨_,rfl⟩
 rw[hA6]at e11
 delta Tryz.s105_c81 zo zg zv zk
 apply joinC (F:=fun t=>ev t (.tmp 1)=.slice (some ⟨b4,o4,none⟩) L.length cL/\ev t (.tmp 2)=.pointer (some ⟨w.next,0,none⟩)/\ev t (.tmp 6)=.int .i64 (i:Int)/\ev t (.tmp 7)=.pointer (some ⟨w2.next,0,none⟩)/\ev t (.tmp 8)=.bool (suB c.kind)/\ev t (.tmp 9)=.bool (toB c.kind)/\ev t (.tmp 10)=.bool (slB c.kind)/\ev t (.tmp 11)=.bool (A6 && fieldB c.to (toB c.kind) ((s.rooms.length:Int) - 1))) (w:=w4)
 case mainC =>
  intro go
  cases A6 with
  | false =>
   simp -dsimp -implicitDefEqProofs (maxSteps:=2000000) (disch:=first|assumption|omega|simp only[nx];omega|(repeat apply zfp);assumption|simp only[smA];done|simp[oneCell,znp]) only[go_sem,e11]
   exact joinC_use go ⟨by(simp only[go_sem,e1];try rfl),by(simp only[go_sem,e2];try rfl),by(simp only[go_sem,e6];try rfl),by(simp only[go_sem,e7];try rfl),by(simp only[go_sem,e8];try rfl),by(simp only[go_sem,e9];try rfl),by(simp only[go_sem,e10];try rfl),by(simp only[go_sem,e11];try rfl)⟩
  | true =>
  cases hT:toB c.kind with
  | true =>
   rw[hT]at e9 go
   simp -dsimp -implicitDefEqProofs (maxSteps:=2000000) (disch:=first|assumption|omega|simp only[nx];omega|(repeat apply zfp);assumption|simp only[smA];done|simp[oneCell,znp]) only[go_sem,e2,e7,e9,e11,d3,p0,Nat.zero_add]
   apply callV_of (e:=rfl)
   . exact From_ok 1 c.to ((s.rooms.length:Int) - 1) w4
   rintro _ _ ⟨rfl,rfl⟩
   have hF:fieldB c.to true ((s.rooms.length:Int) - 1)=inR 1 c.to ((s.rooms.length:Int) - 1):=rfl
   rw[hF]at go
   cases hq:inR 1 c.to ((s.rooms.length:Int) - 1) with
   | true =>
    rw[hq]at go
    simp -dsimp -implicitDefEqProofs (maxSteps:=2000000) (disch:=first|assumption|omega|simp only[nx];omega|(repeat apply zfp);assumption|simp only[smA];done|simp[oneCell,znp]) only[go_sem,e9]
    exact joinC_use go ⟨by(simp only[go_sem,e1];try rfl),by(simp only[go_sem,e2];try rfl),by(simp only[go_sem,e6];try rfl),by(simp only[go_sem,e7];try rfl),by(simp only[go_sem,e8];try rfl),by(simp only[go_sem,e9];try rfl),by(simp only[go_sem,e10];try rfl),by(simp only[go_sem,e11];try rfl)⟩
   | false =>
    rw[hq]at go
    simp -dsimp -implicitDefEqProofs (maxSteps:=2000000) (disch:=first|assumption|omega|simp only[nx];omega|(repeat apply zfp);assumption|simp only[smA];done|simp[oneCell,znp]) only[go_sem,e9]
    exact joinC_use go ⟨by(simp only[go_sem,e1];try rfl),by(simp only[go_sem,e2];try rfl),by(simp only[go_sem,e6];try rfl),by(simp only[go_sem,e7];try rfl),by(simp only[go_sem,e8];try rfl),by(simp only[go_sem,e9];try rfl),by(simp only[go_sem,e10];try rfl),by(simp only[go_sem,e11];try rfl)⟩
  | false =>
   have hF:fieldB c.to false ((s.rooms.length:Int) - 1)=decide (c.to=0):=rfl
   rw[hT]at e9 go
   rw[hF]at go
   cases hq:decide (c.to=0) with
   | true =>
    rw[hq]at go
    simp -dsimp -implicitDefEqProofs (maxSteps:=2000000) (disch:=first|assumption|omega|simp only[nx];omega|(repeat apply zfp);assumption|simp only[smA];done|simp[oneCell,znp]) only[go_sem,e7,e9,e11,d3,hq,Nat.zero_add]
    exact joinC_use go ⟨by(simp only[go_sem,e1];try rfl),by(simp only[go_sem,e2];try rfl),by(simp only[go_sem,e6];try rfl),by(simp only[go_sem,e7];try rfl),by(simp only[go_sem,e8];try rfl),by(simp only[go_sem,e9];try rfl),by(simp only[go_sem,e10];try rfl),by(simp only[go_sem,e11];try rfl)⟩
   | false =>
    rw[hq]at go
    simp -dsimp -implicitDefEqProofs (maxSteps:=2000000) (disch:=first|assumption|omega|simp only[nx];omega|(repeat apply zfp);assumption|simp only[smA];done|simp[oneCell,znp]) only[go_sem,e7,e9,e11,d3,hq,Nat.zero_add]
    exact joinC_use go ⟨by(simp only[go_sem,e1];try rfl),by(simp only[go_sem,e2];try rfl),by(simp only[go_sem,e6];try rfl),by(simp only[go_sem,e7];try rfl),by(simp only[go_sem,e8];try rfl),by(simp only[go_sem,e9];try rfl),by(simp only[go_sem,e10];try rfl),by(simp only[go_sem,e11];try rfl)⟩
 case restC =>
 clear e1 e2 e6 e7 e8 e9 e10 e11
 rintro t ⟨e1,e2,e6,e7,e8,e9,e10,e11⟩
 obtain⟨A7,hA7⟩:∃ b,(A6 && fieldB c.to (toB c.kind) ((s.rooms.length:Int) - 1))=b:=⟨_,rfl⟩
 rw[hA7]at e11
 delta Tryz.s105_c103 zo zg zv zk
 apply joinC (F:=fun t=>ev t (.tmp 1)=.slice (some ⟨b4,o4,none⟩) L.length cL/\ev t (.tmp 2)=.pointer (some ⟨w.next,0,none⟩)/\ev t (.tmp 6)=.int .i64 (i:Int)/\ev t (.tmp 7)=.pointer (some ⟨w2.next,0,none⟩)/\ev t (.tmp 8)=.bool (suB c.kind)/\ev t (.tmp 9)=.bool (toB c.kind)/\ev t (.tmp 10)=.bool (slB c.kind)/\ev t (.tmp 11)=.bool (A7 && fieldB c.sl (slB c.kind) 999999)) (w:=w4)
 case mainC =>
  intro go
  cases A7 with
  | false =>
   simp -dsimp -implicitDefEqProofs (maxSteps:=2000000) (disch:=first|assumption|omega|simp only[nx];omega|(repeat apply zfp);assumption|simp only[smA];done|simp[oneCell,znp]) only[go_sem,e11]
   exact joinC_use go ⟨by(simp only[go_sem,e1];try rfl),by(simp only[go_sem,e2];try rfl),by(simp only[go_sem,e6];try rfl),by(simp only[go_sem,e7];try rfl),by(simp only[go_sem,e8];try rfl),by(simp only[go_sem,e9];try rfl),by(simp only[go_sem,e10];try rfl),by(simp only[go_sem,e11];try rfl)⟩
  | true =>
  cases hT:slB c.kind with
  | true =>
   rw[hT]at e10 go
   simp -dsimp -implicitDefEqProofs (maxSteps:=2000000) (disch:=first|assumption|omega|simp only[nx];omega|(repeat apply zfp);assumption|simp only[smA];done|simp[oneCell,znp]) only[go_sem,e2,e7,e10,e11,d6,Nat.zero_add]
   apply callV_of (e:=rfl)
   . exact From_ok 1 c.sl 999999 w4
   rintro _ _ ⟨rfl,rfl⟩
   have hF:fieldB c.sl true 999999=inR 1 c.sl 999999:=rfl
   rw[hF]at go
   cases hq:inR 1 c.sl 999999 with
   | true =>
    rw[hq]at go
    simp -dsimp -implicitDefEqProofs (maxSteps:=2000000) (disch:=first|assumption|omega|simp only[nx];omega|(repeat apply zfp);assumption|simp only[smA];done|simp[oneCell,znp]) only[go_sem,e10]
    exact joinC_use go ⟨by(simp only[go_sem,e1];try rfl),by(simp only[go_sem,e2];try rfl),by(simp only[go_sem,e6];try rfl),by(simp only[go_sem,e7];try rfl),by(simp only[go_sem,e8];try rfl),by(simp only[go_sem,e9];try rfl),by(simp only[go_sem,e10];try rfl),by(simp only[go_sem,e11];try rfl)⟩
   | false =>
    rw[hq]at go
    simp -dsimp -implicitDefEqProofs (maxSteps:=2000000) (disch:=first|assumption|omega|simp only[nx];omega|(repeat apply zfp);assumption|simp only[smA];done|simp[oneCell,znp]) only[go_sem,e10]
    exact joinC_use go ⟨by(simp only[go_sem,e1];try rfl),by(simp only[go_sem,e2];try rfl),by(simp only[go_sem,e6];try rfl),by(simp only[go_sem,e7];try rfl),by(simp only[go_sem,e8];try rfl),by(simp only[go_sem,e9];try rfl),by(simp only[go_sem,e10];try rfl),by(simp only[go_sem,e11];try rfl)⟩
  | false =>
   have hF:fieldB c.sl false 999999=decide (c.sl=0):=rfl
   rw[hT]at e10 go
   rw[hF]at go
   cases hq:decide (c.sl=0) with
   | true =>
    rw[hq]at go
    simp -dsimp -implicitDefEqProofs (maxSteps:=2000000) (disch:=first|assumption|omega|simp only[nx];omega|(repeat apply zfp);assumption|simp only[smA];done|simp[oneCell,znp]) only[go_sem,e7,e10,e11,d6,hq,Nat.zero_add]
    exact joinC_use go ⟨by(simp only[go_sem,e1];try rfl),by(simp only[go_sem,e2];try rfl),by(simp only[go_sem,e6];try rfl),by(simp only[go_sem,e7];try rfl),by(simp only[go_sem,e8];try rfl),by(simp only[go_sem,e9];try rfl),by(simp only[go_sem,e10];try rfl),by(simp only[go_sem,e11];try rfl)⟩
   | false =>
    rw[hq]at go
    simp -dsimp -implicitDefEqProofs (maxSteps:=2000000) (disch:=first|assumption|omega|simp only[nx];omega|(repeat apply zfp);assumption|simp only[smA];done|simp[oneCell,znp]) only[go_sem,e7,e10,e11,d6,hq,Nat.zero_add]
    exact joinC_use go ⟨by(simp only[go_sem,e1];try rfl),by(simp only[go_sem,e2];try rfl),by(simp only[go_sem,e6];try rfl),by(simp only[go_sem,e7];try rfl),by(simp only[go_sem,e8];try rfl),by(simp only[go_sem,e9];try rfl),by(simp only[go_sem,e10];try rfl),by(simp only[go_sem,e11];try rfl)⟩
 case restC =>
 clear e1 e2 e6 e7 e8 e9 e10 e11
 rintro t ⟨e1,e2,e6,e7,e8,e9,e10,e11⟩
 obtain⟨A8,hA8⟩:∃ b,(A7 && fieldB c.sl (slB c.kind) 999999)=b:=⟨_,rfl⟩
 rw[hA8]at e11
 delta Tryz.s105_c121 zo zg zv zk
 apply joinC (F:=fun t=>ev t (.tmp 1)=.slice (some ⟨b4,o4,none⟩) L.length cL/\ev t (.tmp 2)=.pointer (some ⟨w.next,0,none⟩)/\ev t (.tmp 6)=.int .i64 (i:Int)/\ev t (.tmp 7)=.pointer (some ⟨w2.next,0,none⟩)/\ev t (.tmp 8)=.bool (suB c.kind)/\ev t (.tmp 9)=.bool (toB c.kind)/\ev t (.tmp 10)=.bool (slB c.kind)/\ev t (.tmp 11)=.bool (A8 && fieldB c.suits (suB c.kind) 15)) (w:=w4)
 case mainC =>
  intro go
  cases A8 with
  | false =>
   simp -dsimp -implicitDefEqProofs (maxSteps:=2000000) (disch:=first|assumption|omega|simp only[nx];omega|(repeat apply zfp);assumption|simp only[smA];done|simp[oneCell,znp]) only[go_sem,e11]
   exact joinC_use go ⟨by(simp only[go_sem,e1];try rfl),by(simp only[go_sem,e2];try rfl),by(simp only[go_sem,e6];try rfl),by(simp only[go_sem,e7];try rfl),by(simp only[go_sem,e8];try rfl),by(simp only[go_sem,e9];try rfl),by(simp only[go_sem,e10];try rfl),by(simp only[go_sem,e11];try rfl)⟩
  | true =>
  cases hT:suB c.kind with
  | true =>
   rw[hT]at e8 go
   simp -dsimp -implicitDefEqProofs (maxSteps:=2000000) (disch:=first|assumption|omega|simp only[nx];omega|(repeat apply zfp);assumption|simp only[smA];done|simp[oneCell,znp]) only[go_sem,e2,e7,e8,e11,d7,Nat.zero_add]
   apply callV_of (e:=rfl)
   . exact From_ok 1 c.suits 15 w4
   rintro _ _ ⟨rfl,rfl⟩
   have hF:fieldB c.suits true 15=inR 1 c.suits 15:=rfl
   rw[hF]at go
   cases hq:inR 1 c.suits 15 with
   | true =>
    rw[hq]at go
    simp -dsimp -implicitDefEqProofs (maxSteps:=2000000) (disch:=first|assumption|omega|simp only[nx];omega|(repeat apply zfp);assumption|simp only[smA];done|simp[oneCell,znp]) only[go_sem,e8]
    exact joinC_use go ⟨by(simp only[go_sem,e1];try rfl),by(simp only[go_sem,e2];try rfl),by(simp only[go_sem,e6];try rfl),by(simp only[go_sem,e7];try rfl),by(simp only[go_sem,e8];try rfl),by(simp only[go_sem,e9];try rfl),by(simp only[go_sem,e10];try rfl),by(simp only[go_sem,e11];try rfl)⟩
   | false =>
    rw[hq]at go
    simp -dsimp -implicitDefEqProofs (maxSteps:=2000000) (disch:=first|assumption|omega|simp only[nx];omega|(repeat apply zfp);assumption|simp only[smA];done|simp[oneCell,znp]) only[go_sem,e8]
    exact joinC_use go ⟨by(simp only[go_sem,e1];try rfl),by(simp only[go_sem,e2];try rfl),by(simp only[go_sem,e6];try rfl),by(simp only[go_sem,e7];try rfl),by(simp only[go_sem,e8];try rfl),by(simp only[go_sem,e9];try rfl),by(simp only[go_sem,e10];try rfl),by(simp only[go_sem,e11];try rfl)⟩
  | false =>
   have hF:fieldB c.suits false 15=decide (c.suits=0):=rfl
   rw[hT]at e8 go
   rw[hF]at go
   cases hq:decide (c.suits=0) with
   | true =>
    rw[hq]at go
    simp -dsimp -implicitDefEqProofs (maxSteps:=2000000) (disch:=first|assumption|omega|simp only[nx];omega|(repeat apply zfp);assumption|simp only[smA];done|simp[oneCell,znp]) only[go_sem,e7,e8,e11,d7,hq,Nat.zero_add]
    exact joinC_use go ⟨by(simp only[go_sem,e1];try rfl),by(simp only[go_sem,e2];try rfl),by(simp only[go_sem,e6];try rfl),by(simp only[go_sem,e7];try rfl),by(simp only[go_sem,e8];try rfl),by(simp only[go_sem,e9];try rfl),by(simp only[go_sem,e10];try rfl),by(simp only[go_sem,e11];try rfl)⟩
   | false =>
    rw[hq]at go
    simp -dsimp -implicitDefEqProofs (maxSteps:=2000000) (disch:=first|assumption|omega|simp only[nx];omega|(repeat apply zfp);assumption|simp only[smA];done|simp[oneCell,znp]) only[go_sem,e7,e8,e11,d7,hq,Nat.zero_add]
    exact joinC_use go ⟨by(simp only[go_sem,e1];try rfl),by(simp only[go_sem,e2];try rfl),by(simp only[go_sem,e6];try rfl),by(simp only[go_sem,e7];try rfl),by(simp only[go_sem,e8];try rfl),by(simp only[go_sem,e9];try rfl),by(simp only[go_sem,e10];try rfl),by(simp only[go_sem,e11];try rfl)⟩
 case restC =>
 clear e1 e2 e6 e7 e8 e9 e10 e11
 rintro t ⟨e1,e2,e6,e7,e8,e9,e10,e11⟩
 have hall:(A8 && fieldB c.suits (suB c.kind) 15)=(inR (dayAt L i) c.day 36500 && carryB s c):=by
  rw[hcB,<- hA8,<- hA7,<- hA6]
  simp only[Bool.and_assoc]
 rw[hall]at e11
 delta Tryz.s105_c139 zo zv
 have hD':daysB s 0 L=((inR (dayAt L i) c.day 36500 && carryB s c) && daysB s c.day (L.drop (i+1))):=by rw[hD,Bool.and_assoc]
 cases hq:(inR (dayAt L i) c.day 36500 && carryB s c) with
 | false =>
  rw[hq]at e11 hD'
  rw[hAB,hD']
  simp -dsimp -implicitDefEqProofs (maxSteps:=2000000) (disch:=first|assumption|omega|simp only[nx];omega|(repeat apply zfp);assumption|simp only[smA];done|simp[oneCell,znp]) only[go_sem,e11]
  exact⟨by simp,gg4⟩
 | true =>
  rw[hq,Bool.true_and]at hD'
  rw[hq]at e11
  have e5:=e6
  simp -dsimp -implicitDefEqProofs (maxSteps:=2000000) (disch:=first|assumption|omega|simp only[nx];omega|(repeat apply zfp);assumption|simp only[smA];done|simp[oneCell,znp]) only[go_sem,e1,e2,e6,e7,e11,d0,Nat.zero_add]
  refine⟨_,by omega,i+1,by omega,rfl,rfl,by(simp only[go_sem,e1,hsucc];try rfl),by(simp only[go_sem,e2,hsucc];try rfl),by(simp only[go_sem,e5,hsucc];try rfl),by(simp only[go_sem,e6,hsucc];try rfl),by rw[hD',hsucc],g4⟩
theorem upto_lt (day:Int):∀ (L:List CarI) (i:Nat),i < uptoN day L->∃ h:i < L.length,L[i].day≤day
 | [],i,h=>by simp[uptoN]at h
 | c :: L,i,h=>by
  unfold uptoN at h
  split at h
  · rename_i q
    cases i with
    | zero=>exact⟨by simp,q⟩
    | succ i =>
     obtain⟨h1,h2⟩:=upto_lt day L i (by omega)
     exact⟨by simpa using h1,by simpa using h2⟩
  . omega
theorem upto_end (day:Int):∀ (L:List CarI) (h:uptoN day L < L.length),day < (L[uptoN day L]).day
 | [],h=>by simp at h
 | c :: L,h=>by
  by_cases q:c.day≤day
  · have e:uptoN day (c :: L)=uptoN day L+1:=by rw[uptoN,if_pos q]
    have h':uptoN day L < L.length:=by rw[e]at h;simpa using h
    have:=upto_end day L h'
    have e2:(c :: L)[uptoN day (c :: L)]=L[uptoN day L]:=by
     simp only[e,List.getElem_cons_succ]
    rw[e2];exact this
  . have e:uptoN day (c :: L)=0:=by rw[uptoN,if_neg q]
    have e2:(c :: L)[uptoN day (c :: L)]=c:=by simp only[e,List.getElem_cons_zero]
    rw[e2];omega
theorem days_most {s:StrN}:∀ (L:List CarI) (d:Int),daysB s d L=true->∀ c ∈ L,c.day≤36500:=by
 intro L
 induction L with
 | nil=>intro d _ c hc;cases hc
 | cons a L ih =>
  intro d hd c hc
  simp only[daysB,Bool.and_eq_true,inR_iff]at hd
  rcases List.mem_cons.1 hc with rfl|q
  . exact hd.1.2
  . exact ih _ hd.2.2 c q
theorem upto_whole {s:StrN} {L:List CarI} (h:areB s L=true):uptoN 36500 L=L.length:=by
 unfold areB at h
 rw[Bool.and_eq_true]at h
 exact upto_is 36500 L L.length (Nat.le_refl _) (fun i hi _=>days_most L 0 h.2 _ (List.getElem_mem hi)) (fun hn=>by omega)
theorem goC_cons (s:StrN) (c:CarI) (L:List CarI) (i:Nat) (x:LogN):goC s (c :: L) i x=if stepE s x c.toN=0 then goC s L (i+1) (stepN x c.toN) else (i,stepE s x c.toN,x):=by rw[goC]
def runT (s:StrN) (L:List CarI) (day:Int):Nat × Nat × LogN :=
 if strB s=true then (if areB s L=true then goC s (L.take (uptoN day L)) 0 x0 else (0,43,x0)) else (0,40,x0)
theorem runT_all (s:StrN) (L:List CarI):runT s L 36500=runI s L:=by
 unfold runT runI
 split
 . split
   . rename_i h;rw[upto_whole h,List.take_length]
   . rfl
 . rfl
def PlayR (w:AW) (pR pG pS:Option Addr) (cR cG cS:Nat) (s:StrN) (L:List CarI) (day:Int) (v:Value) (w':AW):Prop :=
 Grown w w'/\(((runT s L day).2.1 ≠ 0/\v=.tuple #[.pointer none,.int .i64 ((runT s L day).1:Int),.int .i64 ((runT s L day).2.1:Int)]) \/
  ((runT s L day).2.1=0/\strB s=true/\areB s L=true/\(runT s L day).2.2=logOf (L.take (uptoN day L))/\LogIn s (logOf (L.take (uptoN day L)))/\∃ hb m ever ve vs,v=.tuple #[.pointer (some ⟨hb+2,0,none⟩),.int .i64 (L.length:Int),.int .i64 0]/\w.next≤hb/\HallAt w' pR pG pS cR cG cS s hb m (logOf (L.take (uptoN day L))) ever ve vs))
set_option maxHeartbeats 64000000 in
theorem play_okR (s:StrN) (pR pG pS:Option Addr) (cR cG cS:Nat) (pL:Option Addr) (cL:Nat) (L:List CarI) (day:Int) (w:AW) (f:Fresh w) (hA:StrAt w pR pG pS cR cG cS s) (hL:ArrOf w 8 carIC (.slice pL L.length cL) L) :
    CallT Tryz.prog Tryz.T1 (.fn (.func 72) #[]) #[.agg (strC pR pG pS cR cG cS s).toArray,.slice pL L.length cL,.int .i64 day] w (PlayR w pR pG pS cR cG cS s L day):=by
 have g1:=(Grown.refl f).push (.cells (strC pR pG pS cR cG cS s) 26 w.next 0 0)
 have O1:=Own.new f 26 (strC pR pG pS cR cG cS s)
 obtain⟨w1,hw1⟩:∃ w1,w.push (.cells (strC pR pG pS cR cG cS s) 26 w.next 0 0)=w1:=⟨_,rfl⟩
 rw[hw1]at g1 O1
 have hls:=fun w' (O:Own w' w.next 26 (strC pR pG pS cR cG cS s))=>loadAll O (n:=3) rfl (by simp[strC,oneCell])
 have hl1:=hls w1 O1
 have hrb:(s.rooms.length:Int)≤140737488355328:=by
  obtain⟨_,_,_,h1,h2,_⟩:=hA.rooms.open
  omega
 have hch:=CheckR_ok s pR pG pS cR cG cS w1 g1.2 (hA.grown g1) hrb
 have hfo:=fun (hs:strB s=true) w' (g':Grown w w')=>form_ok hs pR pG pS cR cG cS pL cL L w' g'.2 (hL.grown g')
 have hha:=fun w' f'=>hall_ok (s:=s) (pR:=pR) (pG:=pG) (pS:=pS) (cR:=cR) (cG:=cG) (cS:=cS) w' f'
 have hRT:runT s L day=if strB s=true then (if areB s L=true then goC s (L.take (uptoN day L)) 0 x0 else (0,43,x0)) else (0,40,x0):=rfl
 unfold PlayR
 unfold strC at *
 refine callT_code rfl Tryz.func72 rfl Tryz.s72_eq rfl ?_
 delta Tryz.s72 zo zg zv zk
 simp -dsimp -implicitDefEqProofs (maxSteps:=2000000) (disch:=first|assumption|omega|simp only[nx];omega|(repeat apply zfp);assumption|simp only[smA];done|simp[oneCell,znp]) only[go_sem,hw1,hl1]
 try rw[hw1]
 apply callV_of (e:=rfl)
 . exact hch
 rintro _ w2 ⟨rfl,g2⟩
 have O12:=O1.keep g2.1
 have gg2:=g1.trans g2
 have hl2:=hls w2 O12
 cases hs:strB s with
 | false =>
  rw[hs,if_neg (by intro z;cases z)]at hRT
  have hE:strE s=40:=by unfold strE;rw[hs];rfl
  have h40:¬ (40:Int)=0:=by omega
  simp -dsimp -implicitDefEqProofs (maxSteps:=2000000) (disch:=first|assumption|omega|simp only[nx];omega|(repeat apply zfp);assumption|simp only[smA];done|simp[oneCell,znp]) only[go_sem,hE,h40]
  exact⟨gg2,.inl ⟨by rw[hRT];show (40:Nat) ≠ 0;omega,by rw[hRT];rfl⟩⟩
 | true =>
 rw[hs,if_pos rfl]at hRT
 have hE:strE s=0:=by unfold strE;rw[hs];rfl
 simp -dsimp -implicitDefEqProofs (maxSteps:=2000000) (disch:=first|assumption|omega|simp only[nx];omega|(repeat apply zfp);assumption|simp only[smA];done|simp[oneCell,znp]) only[go_sem,hE,hl2]
 apply callV_of (e:=rfl)
 . exact hfo hs w2 gg2
 rintro _ w3 ⟨rfl,g3⟩
 have O13:=O12.keep g3.1
 have gg3:=gg2.trans g3
 have hl3:=hls w3 O13
 cases ha:areB s L with
 | false =>
  rw[ha,if_neg (by intro z;cases z)]at hRT
  simp -dsimp -implicitDefEqProofs (maxSteps:=2000000) (disch:=first|assumption|omega|simp only[nx];omega|(repeat apply zfp);assumption|simp only[smA];done|simp[oneCell,znp]) only[go_sem,ha]
  exact⟨gg3,.inl ⟨by rw[hRT];show (43:Nat) ≠ 0;omega,by rw[hRT];rfl⟩⟩
 | true =>
 rw[ha,if_pos rfl]at hRT
 have hall:=days_all L 0 (by omega) (by unfold areB at ha;rw[Bool.and_eq_true]at ha;exact ha.2)
 have h64:L.length≤64:=by unfold areB at ha;rw[Bool.and_eq_true]at ha;exact of_decide_eq_true ha.1
 simp -dsimp -implicitDefEqProofs (maxSteps:=2000000) (disch:=first|assumption|omega|simp only[nx];omega|(repeat apply zfp);assumption|simp only[smA];done|simp[oneCell,znp]) only[go_sem,ha,hl3]
 apply callV_of (e:=rfl)
 . exact hha w3 gg3.2
 rintro _ w4 ⟨hb,rfl,hbn,g4,H4⟩
 have gg4:=gg3.trans g4
 have hn3:=gg3.1.next
 have hNl:=uptoN_le day L
 obtain⟨N,hN⟩:∃ N,uptoN day L=N:=⟨_,rfl⟩
 have hlt0:=fun i (h:i < N)=>upto_lt day L i (by rw[hN];exact h)
 have hend:=upto_end day L
 rw[hN]at hRT hNl hend
 have hg0:goC s (L.take N) 0 x0=goC s ((L.take N).drop 0) 0 (logOf (L.take 0)):=rfl
 have h10:(logOf (L.take 0))=x0:=rfl
 simp -dsimp -implicitDefEqProofs (maxSteps:=2000000) (disch:=first|assumption|omega|simp only[nx];omega|(repeat apply zfp);assumption|simp only[smA];done|simp[oneCell,znp]) only[go_sem]
 refine loopR (fun k t ds w5=>∃ i:Nat,i≤N/\k=N - i/\ds=[]/\ev t (.tmp 1)=.slice pL L.length cL/\ev t (.tmp 2)=.int .i64 day/\ev t (.tmp 10)=.pointer (some ⟨hb+2,0,none⟩)/\ev t (.tmp 11)=.int .i64 (i:Int)/\∃ ever ve vs,HallAt w5 pR pG pS cR cG cS s hb i (logOf (L.take i)) ever ve vs/\LogIn s (logOf (L.take i))/\goC s (L.take N) 0 x0=goC s ((L.take N).drop i) i (logOf (L.take i))/\Grown w w5) (N) ?_ ?_
 . refine⟨0,by omega,by omega,rfl,?_,?_,?_,?_,_,_,_,H4,x0_in hs,hg0,gg4⟩ <;> simp -dsimp -implicitDefEqProofs (maxSteps:=2000000) (disch:=first|assumption|omega|simp only[nx];omega|(repeat apply zfp);assumption|simp only[smA];done|simp[oneCell,znp]) only[go_sem] <;> rfl
 rintro k t ds w5 ⟨i,hii,rfl,rfl,e1,e2,e10,e11,ever,ve,vs,H5,hI,hgo,g5⟩
 by_cases hiN:i < N
 case neg =>
  obtain rfl:i=N:=by omega
  have hdr:(L.take i).drop i=[]:=by rw[List.drop_eq_nil_iff,List.length_take];omega
  rw[hdr]at hgo
  rw[hgo]at hRT
  have hz:(runT s L day).2.1=0:=by rw[hRT];rfl
  have hzl:(runT s L day).2.2=logOf (L.take i):=by rw[hRT];rfl
  by_cases hlt:i < L.length
  . have hltI:(i:Int) < (L.length:Int):=by omega
    have hd:=hend hlt
    obtain⟨_,_,ex,_,_,hat⟩:=(hL.grown g5).open
    injection ex with ex1 ex2 ex3
    subst ex1 ex3
    obtain⟨b8,o8,rfl,_,hc8⟩:=hat i hlt
    have k0:=hc8 w5 (.refl _ _) 0 _ rfl
    rw[Nat.add_zero]at k0
    have hdd:decide (L[i].day≤day)=false:=decide_eq_false (by omega)
    simp -dsimp -implicitDefEqProofs (maxSteps:=2000000) (disch:=first|assumption|omega|simp only[nx];omega|(repeat apply zfp);assumption|simp only[smA];done|simp[oneCell,znp]) only[go_sem,e1,e2,e10,e11,hltI,indexV_eq,k0,hdd,Nat.zero_add]
    exact⟨g5,.inr ⟨hz,trivial,trivial,by rw[hN];exact hzl,by rw[hN];exact hI,hb,i,ever,ve,vs,rfl,by omega,by rw[hN];exact H5⟩⟩
  . have hltI:¬ (i:Int) < (L.length:Int):=by omega
    simp -dsimp -implicitDefEqProofs (maxSteps:=2000000) (disch:=first|assumption|omega|simp only[nx];omega|(repeat apply zfp);assumption|simp only[smA];done|simp[oneCell,znp]) only[go_sem,e1,e2,e10,e11,hltI]
    exact⟨g5,.inr ⟨hz,trivial,trivial,by rw[hN];exact hzl,by rw[hN];exact hI,hb,i,ever,ve,vs,rfl,by omega,by rw[hN];exact H5⟩⟩
 obtain⟨hi,hday⟩:=hlt0 i hiN
 have hltI:(i:Int) < (L.length:Int):=by omega
 obtain⟨hcv,hcd⟩:=hall L[i] (List.getElem_mem hi)
 obtain⟨hcc,hco,_,_⟩:=carry_nat hs hcv hcd
 have hct:=carT_of hcv
 have hdd:decide (L[i].day≤day)=true:=decide_eq_true hday
 obtain⟨_,_,ex,_,_,hat⟩:=(hL.grown g5).open
 injection ex with ex1 ex2 ex3
 subst ex1 ex3
 obtain⟨b8,o8,rfl,hb8,hrow8⟩:=arr_row hL carIC_len carIC_one hi
 obtain⟨_,_,ex,_,hc8⟩:=hat i hi
 injection ex with ex
 injection ex with ex1 ex2
 subst ex1 ex2
 have k0:=hc8 w5 (.refl _ _) 0 _ rfl
 rw[Nat.add_zero]at k0
 have hldC:∀ w',Keep w.next w w'->loadV w' true 8 (.pointer (some ⟨b8,o8+i * 8,none⟩))=some (carV L[i].toN):=fun w' k=>by rw[hrow8 w' k,hcc];rfl
 have hld5:=hldC w5 g5.1
 have hre:=refused_ok hs L[i].toN hco hct hI (by omega) w5 g5.2 (hA.grown g5) H5
 have hdo:=fun (h0:stepE s (logOf (L.take i)) L[i].toN=0) w' (g':Grown w5 w')=>do_okR hs L[i].toN hco hct hI (by omega) h0 w' g'.2 (H5.grown g')
 have hdr:(L.take N).drop i=L[i] :: (L.take N).drop (i+1):=by
  have hl:i < (L.take N).length:=by rw[List.length_take];omega
  rw[List.drop_eq_getElem_cons hl,List.getElem_take]
 rw[hdr]at hgo
 have hIs:=fun (_:stepE s (logOf (L.take i)) L[i].toN=0)=>(hI.step hs H5.ok L[i].toN hco).1
 have hsn:logOf (L.take (i+1))=stepN (logOf (L.take i)) L[i].toN:=logOf_snoc hi
 generalize hcV:carV L[i].toN=CV at *
 simp -dsimp -implicitDefEqProofs (maxSteps:=2000000) (disch:=first|assumption|omega|simp only[nx];omega|(repeat apply zfp);assumption|simp only[smA];done|simp[oneCell,znp]) only[go_sem,e1,e2,e10,e11,hltI,indexV_eq,k0,hdd,hld5,Nat.zero_add]
 apply callV_of (e:=rfl)
 . exact hre
 rintro _ w6 ⟨rfl,g6⟩
 have gg6:=g5.trans g6
 have hld6:=hldC w6 gg6.1
 rw[goC_cons]at hgo
 by_cases h0:stepE s (logOf (L.take i)) L[i].toN=0
 case neg =>
  have h0I:¬ (stepE s (logOf (L.take i)) L[i].toN:Int)=0:=by omega
  rw[if_neg h0]at hgo
  rw[hgo]at hRT
  simp -dsimp -implicitDefEqProofs (maxSteps:=2000000) (disch:=first|assumption|omega|simp only[nx];omega|(repeat apply zfp);assumption|simp only[smA];done|simp[oneCell,znp]) only[go_sem,e1,e2,e10,e11,h0I]
  exact⟨gg6,.inl ⟨by rw[hRT];exact h0,by rw[hRT]⟩⟩
 have h0I:(stepE s (logOf (L.take i)) L[i].toN:Int)=0:=by omega
 rw[if_pos h0,<- hsn]at hgo
 simp -dsimp -implicitDefEqProofs (maxSteps:=2000000) (disch:=first|assumption|omega|simp only[nx];omega|(repeat apply zfp);assumption|simp only[smA];done|simp[oneCell,znp]) only[go_sem,e1,e2,e10,e11,h0I,hltI,indexV_eq,hld6,Nat.zero_add]
 apply callV_of (e:=rfl)
 . exact hdo h0 w6 g6
 rintro _ w7 ⟨ve',vs',H7,hK7,f7⟩
 have g7:Grown w w7:=⟨gg6.1.trans (hK7.mono (by omega)),f7⟩
 simp -dsimp -implicitDefEqProofs (maxSteps:=2000000) (disch:=first|assumption|omega|simp only[nx];omega|(repeat apply zfp);assumption|simp only[smA];done|simp[oneCell,znp]) only[go_sem,e1,e2,e10,e11]
 refine⟨_,by omega,i+1,by omega,rfl,rfl,by(simp only[go_sem,e1];try rfl),by(simp only[go_sem,e2];try rfl),by(simp only[go_sem,e10];try rfl),by(simp only[go_sem,e11];try rfl),_,ve',vs',(by rw[hsn];exact H7),(by rw[hsn];exact hIs h0),hgo,g7⟩
attribute [go_sem] Tryz.ty107 Tryz.ty111
attribute [-go_sem] Tryz.ty107 Tryz.ty111
end Go.Proofs
