/- This program: its code, contracts, numbers, part 5. -/
import Derived.Test.YtnbfkakjdifcpaaGreatPaa
import Derived.Test.YtnbfkakjdifcpaaGreatNa
import Derived.Test.YtnbfkakjdifcpaaGreatChecked
import Derived.Test.YtnbfkakjdifcpaaGreatNc
import Derived.Test.YtnbfkakjdifcpaaGreatPad
import Derived.Test.YtnbfkakjdifcpaaGreatSf
import Derived.Test.YtnbfkakjdifcpaaGreatPab
set_option linter.unusedVariables false
set_option linter.unusedSimpArgs false
namespace Go.Proofs
open Go Go.RowKit Go.Sim
set_option maxRecDepth 100000
def Tryz.s41:SC:=(.seq (.ops false [zo 4 (.assign (.const (.bool false))) 4]) (.seq (.seq (.ops false [zo 5 (.assign (zk 0)) 3]) (.block 0 (.loop (.seq (.seq (.ops false [zo 6 (.move (zv 5)) 3,zo 7 (.move (zv 0)) 24,zo 8 (.call ⟨.builtin .len,⟨[(zv 7)]⟩,⟨[24]⟩⟩) 3,zo 9 (.binOp .lss 3 (zv 6) (zv 8) 3) 4,zo 10 (.move (zv 9)) 4,zg 11 (.move (zv 5)) 3 10 true,zg 12 (.move (zv 1)) 24 10 true,zg 13 (.call ⟨.builtin .len,⟨[(zv 12)]⟩,⟨[24]⟩⟩) 3 10 true,zg 14 (.binOp .lss 3 (zv 11) (zv 13) 3) 4 10 true,zo 15 (.pick (zv 10) (zv 14) (.const (.bool false))) 4]) (.cond (.tmp 15) .skip (.exit 0))) (.seq (.block 1 (.seq (.ops true [zt 18 (.move (zv 0)) 24,zt 19 (.move (zv 5)) 3,zt 20 (.indexAddr 24 (zv 18) (zv 19)) 0,zt 21 (.load 3 (zv 20)) 3,zt 22 (.move (zv 1)) 24,zt 23 (.move (zv 5)) 3,zt 24 (.indexAddr 24 (zv 22) (zv 23)) 0,zt 25 (.load 3 (zv 24)) 3,zt 26 (.binOp .neq 3 (zv 21) (zv 25) 3) 4]) (.cond (.tmp 26) (.seq (.ops true [zt 27 (.move (zv 0)) 24,zt 28 (.move (zv 5)) 3,zt 29 (.indexAddr 24 (zv 27) (zv 28)) 0,zt 30 (.load 3 (zv 29)) 3,zt 31 (.move (zv 1)) 24,zt 32 (.move (zv 5)) 3,zt 33 (.indexAddr 24 (zv 31) (zv 32)) 0,zt 34 (.load 3 (zv 33)) 3,zt 35 (.binOp .lss 3 (zv 30) (zv 34) 3) 4,zt 4 (.assign (zv 35)) 4]) .ret) .skip))) (.ops false [zo 16 (.move (zv 5)) 3,zo 17 (.binOp .add 3 (zv 16) (zk 1) 3) 3,zo 5 (.assign (zv 17)) 3])))))) (.seq (.ops false [zo 36 (.move (zv 0)) 24,zo 37 (.call ⟨.builtin .len,⟨[(zv 36)]⟩,⟨[24]⟩⟩) 3,zo 38 (.move (zv 1)) 24,zo 39 (.call ⟨.builtin .len,⟨[(zv 38)]⟩,⟨[24]⟩⟩) 3,zo 40 (.binOp .lss 3 (zv 37) (zv 39) 3) 4,zo 4 (.assign (zv 40)) 4]) .ret)))
theorem Tryz.s41_eq:Tryz.f41.body.map sOf=some Tryz.s41:=by kernel_rfl
theorem Tryz.ty36:(prg Tryz.prog).ty 36=some ⟨true,(.struct #[⟨ "Group",3,0,false, "", "",0⟩, ⟨ "Room",3,1,false, "", "",8⟩, ⟨ "Way",24,2,false, "", "",16⟩]),3,40,.agg #[.int .i64 0,.int .i64 0,.slice none 0 0]⟩:=by kernel_rfl
attribute [go_sem] Tryz.ty36
end Go.Proofs

namespace Go.Sim
open Go Go.RowKit
theorem AOwn.weak {B C:Nat} {w:AW} {e:TypeId} {size n:Nat} {v:Value} {cells:List Value} (h:AOwn B w e size v n cells) (k:C≤B):AOwn C w e size v n cells:=by
 rcases h with h|⟨b,r,a1,a2,a3,a4,a5,a6,a7,a9,a8⟩
 . exact .inl h
 . exact .inr ⟨b,r,a1,by omega,a3,by omega,a5,a6,a7,a9,fun j hj=>let ⟨x,y⟩:=a8 j hj;⟨by omega,y⟩⟩
end Go.Sim

namespace Go.Proofs
open Go Go.RowKit Go.Sim
set_option maxRecDepth 100000
theorem in_ok (a b:Nat) (ha:a < 4611686018427387904) (hb:b < 4611686018427387904) (w:AW):CallT Tryz.prog Tryz.T1 (.fn (.func 37) #[]) #[.int .i64 (a:Int),.int .i64 (b:Int)] w (Ret (.bool (subB b a)) fun w'=>w=w'):=by
 have han:=and_nat (a:=a) (b:=b) ha hb
 have hd:decide (((a &&& b:Nat):Int)=(a:Int))=subB b a:=by unfold subB;rw[decide_eq_decide,Nat.and_comm];omega
 refine callT_code rfl Tryz.func37 rfl Tryz.s37_eq rfl ?_
 delta Tryz.s37 zo zv
 simp -dsimp -implicitDefEqProofs (maxSteps:=2000000) (disch:=first|assumption|omega|simp only[nx];omega|(repeat apply zfp);assumption|simp only[smA];done|simp[oneCell,znp]) only[go_sem,han,hd]
 exact⟨rfl,rfl⟩
theorem Tryz.bs24x0 (t:Tmps) (l:List (Nat × Operand)):makes (prg Tryz.prog) t (.buildSlice 24 0 ⟨l⟩)=bsQ 3 0 1 [] (l.map fun p=>(p.1,ev t p.2)):=makes_bs Tryz.ty24 Tryz.ty3 rfl (by kernel_rfl)
theorem bsQ_00 {e:TypeId} {z:Nat}:bsQ e 0 z [] []=some ([],e,fun n=>.slice (some ⟨n,0,none⟩) 0 0):=rfl
attribute [go_sem] Tryz.bs24x0 bsQ_00
theorem icells_ones (A:List Int):∀ v ∈ A.flatMap icells,oneCell v=true:=fun v hv=>by
 obtain⟨y,_,hy⟩:=List.mem_flatMap.1 hv
 exact icells_one y v hy
structure MapI (w:AW) (r:Nat) (ks:List Int):Prop where
 blk:∃ es clock,w.blk r=some (.map es clock)/\es.toList.map (·.key)=ks.map (Value.int .i64)/\∀ e ∈ es.toList,e.val=.bool true
 lt:r < w.next
theorem MapI.other {S:Nat->Prop} {w w':AW} {r:Nat} {ks:List Int} (h:MapI w r ks) (k:MutS S w w') (hn:¬ S r):MapI w' r ks:=by
 obtain⟨⟨es,c,h1,h2⟩,h4⟩:=h
 exact⟨⟨es,c,by rw[k.blk r h4 hn];exact h1,h2⟩,by have:=k.next;omega⟩
theorem findNow_ints (k:Int):∀ (es:List MapEntry) (ks:List Int) (i:Nat),es.map (·.key)=ks.map (Value.int .i64)->(∀ e ∈ es,e.val=.bool true) ->
    (k ∈ ks->∃ j,Instr.findNow (.int .i64) (.int .i64 k) es i=some (some (j,.bool true)))/\(¬ k ∈ ks->Instr.findNow (.int .i64) (.int .i64 k) es i=some none)
 | [],[],i,_,_=>⟨fun h=>by simp at h,fun _=>rfl⟩
 | [],_ :: _,_,h,_=>by simp at h
 | _ :: _,[],_,h,_=>by simp at h
 | e :: es,x :: ks,i,h,hv=>by
  simp only[List.map_cons,List.cons.injEq]at h
  obtain⟨ih1,ih2⟩:=findNow_ints k es ks (i+1) h.2 (fun e he=>hv e (List.mem_cons_of_mem _ he))
  have hval:=hv e List.mem_cons_self
  have he:Instr.sameNow (.int .i64) (.int .i64 k) e.key=some (k == x):=by rw[h.1];rfl
  by_cases q:k=x
  . have hb:(k == x)=true:=by simp[q]
    rw[hb]at he
    refine⟨fun _=>⟨i,?_⟩,fun hn=>absurd (by rw[q];exact List.mem_cons_self) hn⟩
    simp only[Instr.findNow,he,hval]
  · have hb:(k == x)=false:=by simp[q]
    rw[hb]at he
    refine⟨fun hm=>?_,fun hn=>?_⟩
    . obtain⟨j,hj⟩:=ih1 (by rcases List.mem_cons.mp hm with a|a;exact absurd a q;exact a)
      exact⟨j,by simp only[Instr.findNow,he,hj]⟩
    . simp only[Instr.findNow,he]
      exact ih2 fun hm=>hn (List.mem_cons_of_mem _ hm)
theorem MapI.lookup {w:AW} {r:Nat} {ks:List Int} (h:MapI w r ks) (k:Int):lookupV w (.int .i64) (.bool false) (.map (some r)) (.int .i64 k) false=some (.bool (ks.contains k)):=by
 obtain⟨⟨es,c,h1,h2,h3⟩,h4⟩:=h
 obtain⟨f1,f2⟩:=findNow_ints k es.toList ks 0 h2 h3
 unfold lookupV
 by_cases q:k ∈ ks
 . obtain⟨j,hj⟩:=f1 q
   simp only[simpleKey,h1,hj]
   rw[List.contains_iff_mem.2 q]
 . have hq:ks.contains k=false:=by rw[Bool.eq_false_iff];exact fun z=>q (List.contains_iff_mem.1 z)
   simp only[simpleKey,h1,f2 q,hq]
theorem MapI.add {g:Prg} {ty kt e:TypeId} {a1 a2:Bool} {n1 b1 n2 b2:Nat} {z1 z2:Value} (ht:g.ty ty=some ⟨a1,.map kt e,n1,b1,z1⟩) (hk:g.ty kt=some ⟨a2,.int .i64,n2,b2,z2⟩) {w:AW} {r:Nat} {ks:List Int} (h:MapI w r ks) (k:Int) (hn:ks.contains k=false) :
    ∃ b,updateV g w ty (.map (some r)) (.int .i64 k) (.bool true)=some (w.put r b)/\MapI (w.put r b) r (ks++[k]):=by
 have hn':¬ k ∈ ks:=fun q=>by rw[List.contains_iff_mem.2 q]at hn;cases hn
 obtain⟨⟨es,c,h1,h2,h3⟩,h4⟩:=h
 obtain⟨f1,f2⟩:=findNow_ints k es.toList ks 0 h2 h3
 refine⟨.map (es.push { key:=.int .i64 k,val:=.bool true,born:=c }) (c+1),?_,⟨_,_,by rw[AW.blk_put _ _ _ _ (Trie.in_ _) (Trie.in_ _),if_pos rfl],?_,?_⟩,by rw[AW.next_put];exact h4⟩
 . unfold updateV
   simp only[ht,hk,h1,simpleKey,f2 hn']
 . simp[h2]
 . intro e he
   simp only[Array.toList_push,List.mem_append,List.mem_singleton]at he
   rcases he with q|q
   . exact h3 e q
   . rw[q]
theorem nats_has (L:List Nat) (k:Nat):(natsL L).contains (k:Int)=L.contains k:=by
 rw[Bool.eq_iff_iff,List.contains_iff_mem,List.contains_iff_mem]
 unfold natsL
 constructor
 . intro h
   obtain⟨y,hy,e⟩:=List.mem_map.1 h
   have:y=k:=by omega
   rw[<- this];exact hy
 . intro h
   exact List.mem_map.2 ⟨k,h,rfl⟩
theorem Tryz.ty129:(prg Tryz.prog).ty 129=some ⟨false,(.slice 132),1,24,.slice none 0 0⟩:=by kernel_rfl
attribute [go_sem] Tryz.ty129
theorem Tryz.ty130:(prg Tryz.prog).ty 130=some ⟨false,(.map 78 4),1,8,.map none⟩:=by kernel_rfl
attribute [go_sem] Tryz.ty130
theorem Tryz.ty132:(prg Tryz.prog).ty 132=some ⟨true,(.struct #[⟨ "tour",80,0,true, "", "lombard/vault",0⟩, ⟨ "way",24,5,false, "", "lombard/vault",88⟩]),6,112,.agg #[.slice none 0 0,.slice none 0 0,.slice none 0 0,.int .i64 0,.int .i64 0,.slice none 0 0]⟩:=by kernel_rfl
attribute [go_sem] Tryz.ty132
theorem Tryz.ty133:(prg Tryz.prog).ty 133=some ⟨false,(.func #[80,24] #[] false),1,8,.nilFunc⟩:=by kernel_rfl
attribute [go_sem] Tryz.ty133
theorem Tryz.ia129 (t:Tmps) (w:AW) (x y:Operand):fast (prg Tryz.prog) t w (.indexAddr 129 x y)=indexV 6 (ev t x) (ev t y):=fast_indexAddr Tryz.ty129 Tryz.ty132
attribute [go_sem] Tryz.ia129
theorem Tryz.ln129 (t:Tmps) (w:AW) (x:Operand):fast (prg Tryz.prog) t w (.call ⟨.builtin .len,⟨[x]⟩,⟨[129]⟩⟩)=lenV (ev t x):=fast_len Tryz.ty129
attribute [go_sem] Tryz.ln129
theorem Tryz.bd132 (t:Tmps) (w:AW) (l:List (Nat × Operand)):fast (prg Tryz.prog) t w (.build 132 ⟨l⟩)=bldQ [(0,5),(5,1)] [.slice none 0 0,.slice none 0 0,.slice none 0 0,.int .i64 0,.int .i64 0,.slice none 0 0] (l.map fun p=>(p.1,ev t p.2)):=fast_build (zs:=[.slice none 0 0,.slice none 0 0,.slice none 0 0,.int .i64 0,.int .i64 0,.slice none 0 0]) Tryz.ty132 (by kernel_rfl)
attribute [go_sem] Tryz.bd132
theorem Tryz.fa132x0 (t:Tmps) (w:AW) (x:Operand):fast (prg Tryz.prog) t w (.fieldAddr 132 x 0)=fieldOff (ev t x) 0:=fast_fieldAddr (fd := ⟨ "tour",80,0,true, "", "lombard/vault",0⟩) Tryz.ty132 rfl Tryz.ty80 rfl
attribute [go_sem] Tryz.fa132x0
theorem Tryz.fa132x1 (t:Tmps) (w:AW) (x:Operand):fast (prg Tryz.prog) t w (.fieldAddr 132 x 1)=fieldOff (ev t x) 5:=fast_fieldAddr (fd := ⟨ "way",24,5,false, "", "lombard/vault",88⟩) Tryz.ty132 rfl Tryz.ty24 rfl
attribute [go_sem] Tryz.fa132x1
def Tryz.s22:SC:=(.seq (.ops false [zo 3 (.box 26 (zv 0)) 0,zo 6 (.assign (.const (.slice none 0 0))) 24,zo 7 (.assign (zk 0)) 27]) (.seq (.ops false [zo 14 (.load 26 (zv 3)) 26,zo 15 (.move (zv 1)) 3,zo 16 (.call ⟨.value (.func 47),⟨[(zv 14),(zv 15)]⟩,⟨[26,3]⟩⟩) 81,zo 13 (.move (zv 16)) 81,zo 17 (.extract (zv 13) 0) 80,zo 18 (.extract (zv 13) 1) 27,zo 8 (.alloc 80) 0,zon (.store 80 (zv 8) (zv 17)) 0,zo 9 (.assign (zv 18)) 27]) (.seq (.seq (.ops false [zo 19 (.move (zv 9)) 27,zo 20 (.binOp .neq 27 (zv 19) (zk 0) 27) 4]) (.cond (.tmp 20) (.seq (.ops false [zo 21 (.move (zv 9)) 27,zo 6 (.assign (.const (.slice none 0 0))) 24,zo 7 (.assign (zv 21)) 27]) .ret) .skip)) (.seq (.seq (.ops false [zo 22 (.load 26 (zv 3)) 26,zo 23 (.move (zv 2)) 3,zo 24 (.call ⟨.value (.func 58),⟨[(zv 22),(zv 23)]⟩,⟨[26,3]⟩⟩) 27,zo 10 (.assign (zv 24)) 27]) (.seq (.ops false [zo 25 (.move (zv 10)) 27,zo 26 (.binOp .neq 27 (zv 25) (zk 0) 27) 4]) (.cond (.tmp 26) (.seq (.ops false [zo 27 (.move (zv 10)) 27,zo 6 (.assign (.const (.slice none 0 0))) 24,zo 7 (.assign (zv 27)) 27]) .ret) .skip))) (.seq (.ops false [zo 29 (.load 80 (zv 8)) 80,zo 30 (.move (zv 2)) 3,zo 31 (.call ⟨.value (.func 59),⟨[(zv 29),(zv 30)]⟩,⟨[80,3]⟩⟩) 90,zo 28 (.move (zv 31)) 90,zo 32 (.extract (zv 28) 0) 24,zo 33 (.extract (zv 28) 1) 4,zo 11 (.assign (zv 32)) 24,zo 12 (.assign (zv 33)) 4]) (.seq (.seq (.ops false [zo 34 (.move (zv 12)) 4,zo 35 (.unOp .not 4 (zv 34)) 4]) (.cond (.tmp 35) (.seq (.ops false [zo 6 (.assign (.const (.slice none 0 0))) 24,zo 7 (.assign (zk 4)) 27]) .ret) .skip)) (.seq (.ops false [zo 36 (.move (zv 11)) 24,zo 6 (.assign (zv 36)) 24,zo 7 (.assign (zk 0)) 27]) .ret)))))))
noncomputable def Tryz.s59:SC :=
 (.seq
  (.ops false [
    ⟨⟨(some 2),.box 80 (.tmp 0), 0, "",⟨[]⟩,none⟩,none,false⟩,
    ⟨⟨(some 3),.box 3 (.tmp 1), 0, "",⟨[]⟩,none⟩,none,false⟩,
    ⟨⟨(some 4),.alloc 24, 0, "",⟨[]⟩,none⟩,none,false⟩,
    ⟨⟨(some 5),.alloc 4, 0, "",⟨[]⟩,none⟩,none,false⟩])
  (.seq
   (.seq
    (.ops false [
      ⟨⟨(some 13),.fieldAddr 80 (.tmp 2) 2, 0, "",⟨[]⟩,none⟩,none,false⟩,
      ⟨⟨(some 14),.load 78 (.tmp 13),78, "",⟨[]⟩,none⟩,none,false⟩,
      ⟨⟨(some 15),.load 3 (.tmp 3), 3, "",⟨[]⟩,none⟩,none,false⟩,
      ⟨⟨(some 16),.call ⟨.value (.func 55),⟨[(.tmp 14),(.tmp 15)]⟩,⟨[78,3]⟩⟩, 4, "",⟨[]⟩,none⟩,none,false⟩])
    (.cond (.tmp 16)
     (.seq
      (.ops false [
        ⟨⟨none,.store 24 (.tmp 4) (.const (.slice none 0 0)), 0, "",⟨[]⟩,none⟩,none,false⟩,
        ⟨⟨none,.store 4 (.tmp 5) (.const (.bool true)), 0, "",⟨[]⟩,none⟩,none,false⟩])
      .ret)
     .skip))
   (.seq
    (.ops false [
      ⟨⟨(some 6),.alloc 129, 0, "",⟨[]⟩,none⟩,none,false⟩])
    (.seq
     (.ops false [
       ⟨⟨(some 17),.makeMap 130 none,130, "",⟨[]⟩,none⟩,none,false⟩,
       ⟨⟨(some 7),.alloc 130, 0, "",⟨[]⟩,none⟩,none,false⟩,
       ⟨⟨none,.store 130 (.tmp 7) (.tmp 17), 0, "",⟨[]⟩,none⟩,none,false⟩])
     (.seq
      (.ops false [
        ⟨⟨(some 18),.makeFunc (.func 87) ⟨[]⟩ ⟨[(.tmp 7),(.tmp 6)]⟩,133, "",⟨[]⟩,none⟩,none,false⟩,
        ⟨⟨(some 8),.alloc 133, 0, "",⟨[]⟩,none⟩,none,false⟩,
        ⟨⟨none,.store 133 (.tmp 8) (.tmp 18), 0, "",⟨[]⟩,none⟩,none,false⟩])
      (.seq
       (.ops false [
         ⟨⟨(some 19),.load 133 (.tmp 8),133, "",⟨[]⟩,none⟩,none,false⟩,
         ⟨⟨(some 20),.load 80 (.tmp 2),80, "",⟨[]⟩,none⟩,none,false⟩,
         ⟨⟨(some 21),.call ⟨.value (.tmp 19),⟨[(.tmp 20),(.const (.slice none 0 0))]⟩,⟨[80,24]⟩⟩, 0, "",⟨[]⟩,none⟩,none,false⟩])
       (.seq
        .skip
        (.seq
         (.block 0
          (.loop
           (.seq
            (.seq
             (.ops false [
               ⟨⟨(some 22),.load 129 (.tmp 6),129, "",⟨[]⟩,none⟩,none,false⟩,
               ⟨⟨(some 23),.call ⟨.builtin .len,⟨[(.tmp 22)]⟩,⟨[129]⟩⟩, 3, "",⟨[]⟩,none⟩,none,false⟩,
               ⟨⟨(some 24),.binOp .gtr 3 (.tmp 23) (.const (.int .i64 0)) 3, 4, "",⟨[]⟩,none⟩,none,false⟩])
             (.cond (.tmp 24)
              .skip
              (.exit 0)))
            (.block 1
             (.seq
              (.ops false [
                ⟨⟨(some 25),.load 129 (.tmp 6),129, "",⟨[]⟩,none⟩,none,false⟩,
                ⟨⟨(some 26),.indexAddr 129 (.tmp 25) (.const (.int .i64 0)), 0, "",⟨[]⟩,none⟩,none,false⟩,
                ⟨⟨(some 27),.load 132 (.tmp 26),132, "",⟨[]⟩,none⟩,none,false⟩,
                ⟨⟨(some 9),.alloc 132, 0, "",⟨[]⟩,none⟩,none,false⟩,
                ⟨⟨none,.store 132 (.tmp 9) (.tmp 27), 0, "",⟨[]⟩,none⟩,none,false⟩])
              (.seq
               (.ops false [
                 ⟨⟨(some 28),.load 129 (.tmp 6),129, "",⟨[]⟩,none⟩,none,false⟩,
                 ⟨⟨(some 29),.slice 129 (.tmp 28) (some (.const (.int .i64 1))) none none,129, "",⟨[]⟩,none⟩,none,false⟩,
                 ⟨⟨none,.store 129 (.tmp 6) (.tmp 29), 0, "",⟨[]⟩,none⟩,none,false⟩])
               (.seq
                (.ops false [
                  ⟨⟨(some 30),.fieldAddr 132 (.tmp 9) 0, 0, "",⟨[]⟩,none⟩,none,false⟩,
                  ⟨⟨(some 31),.load 80 (.tmp 30),80, "",⟨[]⟩,none⟩,none,false⟩,
                  ⟨⟨(some 32),.call ⟨.value (.func 77),⟨[(.tmp 31)]⟩,⟨[80]⟩⟩,121, "",⟨[]⟩,none⟩,none,false⟩])
                (.block 2
                 (.raw (.rangeFunc (.tmp 32) ⟨[33,34]⟩ (codeA Tryz.f59) (codeB Tryz.f59)))))))))))
         (.seq
          (.ops true [
            ⟨⟨(some 50),.load 24 (.tmp 4),24, "",⟨[]⟩,none⟩,none,true⟩,
            ⟨⟨(some 51),.load 4 (.tmp 5), 4, "",⟨[]⟩,none⟩,none,true⟩,
            ⟨⟨none,.store 24 (.tmp 4) (.tmp 50), 0, "",⟨[]⟩,none⟩,none,true⟩,
            ⟨⟨none,.store 4 (.tmp 5) (.tmp 51), 0, "",⟨[]⟩,none⟩,none,false⟩])
          .ret)))))))))
def Tryz.ra59:SC:=(.seq (.ops false [zo 10 (.assign (zv 33)) 3]) (.ops false [zo 11 (.alloc 80) 0,zon (.store 80 (zv 11) (zv 34)) 0]))
def Tryz.rb59:SC:=(.block 3 (.seq (.ops false [zo 35 (.fieldAddr 132 (zv 9) 1) 0,zo 36 (.load 24 (zv 35)) 24,zo 37 (.call ⟨.value (.func 88),⟨[(zv 36)]⟩,⟨[24]⟩⟩) 24,zo 38 (.move (zv 10)) 3,zo 39 (.buildSlice 24 1 ⟨[(0,(zv 38))]⟩) 24,zo 40 (.call ⟨.builtin .append,⟨[(zv 37),(zv 39)]⟩,⟨[24,24]⟩⟩) 24,zo 12 (.assign (zv 40)) 24]) (.seq (.seq (.ops false [zo 41 (.fieldAddr 80 (zv 11) 2) 0,zo 42 (.load 78 (zv 41)) 78,zo 43 (.load 3 (zv 3)) 3,zo 44 (.call ⟨.value (.func 55),⟨[(zv 42),(zv 43)]⟩,⟨[78,3]⟩⟩) 4]) (.cond (.tmp 44) (.seq (.ops false [zo 45 (.move (zv 12)) 24,zon (.store 24 (zv 4) (zv 45)) 0,zon (.store 4 (zv 5) (.const (.bool true))) 0]) (.exit 0)) .skip)) (.ops false [zo 46 (.load 133 (zv 8)) 133,zo 47 (.load 80 (zv 11)) 80,zo 48 (.move (zv 12)) 24,zo 49 (.call ⟨.value (zv 46),⟨[(zv 47),(zv 48)]⟩,⟨[80,24]⟩⟩) 0]))))
def Tryz.s87:SC:=(.seq (.ops false [zo 4 (.box 80 (zv 0)) 0]) (.seq (.ops false [zo 6 (.load 130 (zv 2)) 130,zo 7 (.fieldAddr 80 (zv 4) 2) 0,zo 8 (.load 78 (zv 7)) 78,zo 9 (.lookup 130 (zv 6) (zv 8) false) 4,zo 10 (.unOp .not 4 (zv 9)) 4]) (.cond (.tmp 10) (.seq (.ops false [zo 11 (.load 130 (zv 2)) 130,zo 12 (.fieldAddr 80 (zv 4) 2) 0,zo 13 (.load 78 (zv 12)) 78,zon (.mapUpdate 130 (zv 11) (zv 13) (.const (.bool true))) 0]) (.ops false [zo 14 (.load 129 (zv 3)) 129,zo 15 (.load 80 (zv 4)) 80,zo 16 (.move (zv 1)) 24,zo 17 (.build 132 ⟨[(0,(zv 15)),(1,(zv 16))]⟩) 132,zo 18 (.buildSlice 129 1 ⟨[(0,(zv 17))]⟩) 129,zo 19 (.call ⟨.builtin .append,⟨[(zv 14),(zv 18)]⟩,⟨[129,129]⟩⟩) 129,zon (.store 129 (zv 3) (zv 19)) 0])) .skip)))
def Tryz.s88:SC:=(.seq (.ops false [zo 2 (.assign (.const (.slice none 0 0))) 24]) (.seq (.seq (.ops false [zo 3 (.move (zv 0)) 24,zo 4 (.binOp .eql 24 (zv 3) (.const (.slice none 0 0)) 24) 4]) (.cond (.tmp 4) (.seq (.ops false [zo 2 (.assign (.const (.slice none 0 0))) 24]) .ret) .skip)) (.seq (.ops false [zo 5 (.buildSlice 24 0 ⟨[]⟩) 24,zo 6 (.move (zv 0)) 24,zo 7 (.call ⟨.builtin .append,⟨[(zv 5),(zv 6)]⟩,⟨[24,24]⟩⟩) 24,zo 2 (.assign (zv 7)) 24]) .ret)))
theorem Tryz.s22_eq:Tryz.f22.body.map sOf=some Tryz.s22:=by kernel_rfl
theorem Tryz.s59_eq:Tryz.f59.body.map sOf=some Tryz.s59:=by kernel_rfl
theorem Tryz.s87_eq:Tryz.f87.body.map sOf=some Tryz.s87:=by kernel_rfl
theorem Tryz.s88_eq:Tryz.f88.body.map sOf=some Tryz.s88:=by kernel_rfl
end Go.Proofs

namespace Go.Sim
open Go Go.RowKit
def QOwn (B:Nat) (w:AW) (e:TypeId) (size:Nat) (v:Value) (n:Nat) (cells:List Value):Prop :=
 (v=.slice none 0 0/\n=0/\cells=[]) \/
 ∃ b o r off all,v=.slice (some ⟨b,o,none⟩) n n/\B≤b/\b < w.next/\B≤r/\r < w.next/\w.blk b=some (.cells all e r off size)/\o+n * size=all.length/\all.drop o=cells/\(∀ x ∈ all,oneCell x=true)/\r ∈ members (w.family r) r /\
  ∀ j ∈ members (w.family r) r,B≤j/\j < w.next/\∃ c e' o',w.blk j=some (.cells c e' r o' size)/\o'+c.length≤off+all.length
theorem QOwn.nil (B:Nat) (w:AW) (e:TypeId) (size:Nat):QOwn B w e size (.slice none 0 0) 0 []:=.inl ⟨rfl,rfl,rfl⟩
theorem QOwn.mut {S:Nat->Prop} {B:Nat} {w w':AW} {e:TypeId} {size n:Nat} {v:Value} {cells:List Value} (h:QOwn B w e size v n cells) (m:MutS S w w') (hS:∀ j,S j->j < w.next->∀ c e r o,w.blk j ≠ some (.cells c e r o size)):QOwn B w' e size v n cells:=by
 rcases h with h|⟨b,o,r,off,all,a1,a2,a3,a4,a5,a6,a7,a8,a9,a10,a11⟩
 . exact .inl h
 have hn:=m.next
 have hj:∀ j ∈ members (w.family r) r,w'.blk j=w.blk j:=fun j q=>by
  obtain⟨_,q2,c,e',o',q3,_⟩:=a11 j q
  exact m.blk j q2 fun z=>hS j z q2 _ _ _ _ q3
 have hr:¬ S r:=fun z=>by
  obtain⟨_,q2,c,e',o',q3,_⟩:=a11 r a10
  exact hS r z q2 _ _ _ _ q3
 have hf:=m.fam r a5 hr
 refine .inr ⟨b,o,r,off,all,a1,a2,by omega,a4,by omega,?_,a7,a8,a9,by rw[hf];exact a10,fun j q=>?_⟩
 . rw[m.blk b a3 fun z=>hS b z a3 _ _ _ _ a6];exact a6
 . rw[hf]at q
   obtain⟨q1,q2,c,e',o',q3,q4⟩:=a11 j q
   exact⟨q1,by omega,c,e',o',by rw[hj j q];exact q3,q4⟩
theorem QOwn.grown {B:Nat} {w w':AW} {e:TypeId} {size n:Nat} {v:Value} {cells:List Value} (h:QOwn B w e size v n cells) (g:Grown w w'):QOwn B w' e size v n cells :=
 h.mut (S:=fun _=>False) (.of g) fun _ z=>z.elim
theorem strikes_noneO (me cls:Nat):∀ (l:List Nat) (w:AW),(∀ j ∈ l,∃ c e r o z,w.blk j=some (.cells c e r o z)/\o+c.length≤cls)->strikes me cls l w=w
 | [],_,_=>rfl
 | j :: l,w,h=>by
  obtain⟨c,e,r,o,z,hb,hc⟩:=h j List.mem_cons_self
  have:strike me cls w j=w:=by
   unfold strike
   split
   . rfl
   . simp only[hb]
     have h1:Nat.ble o cls=true:=Nat.ble_eq_true_of_le (by omega)
     have h2:getL c (cls - o)=none:=by rw[getL_eq];exact List.getElem?_eq_none (by omega)
     simp only[h1,h2]
  rw[strikes,this]
  exact strikes_noneO me cls l w fun j hj=>h j (List.mem_cons_of_mem _ hj)
theorem struckOver_noneO (me:Nat) (f:List Nat):∀ (m lo:Nat) (w:AW),(∀ j ∈ f,∃ c e r o z,w.blk j=some (.cells c e r o z)/\o+c.length≤lo)->struckOver me f m lo w=w
 | 0,_,_,_=>rfl
 | m+1,lo,w,h=>by
  rw[struckOver,strikes_noneO me lo f w h]
  exact struckOver_noneO me f m (lo+1) w fun j hj=>let ⟨c,e,r,o,z,a,b⟩:=h j hj;⟨c,e,r,o,z,a,by omega⟩
theorem QOwn.more {g:Prg} {w:AW} {B:Nat} {ty e e1:TypeId} {a1 a2:Bool} {n1 b1 size b2:Nat} {d2:TypeDesc} {z1 z2:Value} (h:g.ty ty=some ⟨a1,.slice e,n1,b1,z1⟩) (h2:g.ty e=some ⟨a2,d2,size,b2,z2⟩) (hz:z2.cells.size=size) (hb2:b2≤1048576) (hs:1≤size)
    {v:Value} {n:Nat} {cells:List Value} (hv:QOwn B w e size v n cells) (f:Fresh w) (hB:B≤w.next) {new:List Value} (hlen:new.length=size) (h1:∀ y ∈ new,oneCell y=true) (hroom:n+1≤1048576) :
    ∃ v' w',append g (w.push (.cells new e1 w.next 0 0)) ty ty v (.slice (some ⟨w.next,0,none⟩) 1 1)=some (v',w')/\QOwn B w' e size v' (n+1) (cells++new)/\Keep B w w'/\Fresh w'/\Apnd w w':=by
 have hO:=Own.new f e1 new
 have hp:Apnd w (w.push (.cells new e1 w.next 0 0)):=Apnd.push w _
 have kp:=(Keep.refl B w).push hB (.cells new e1 w.next 0 0)
 have hv1:=hv.grown ((Grown.refl f).push (.cells new e1 w.next 0 0))
 have f1:=f.push (.cells new e1 w.next 0 0)
 have hn1:(w.push (.cells new e1 w.next 0 0)).next=w.next+1:=AW.next_push _ _
 have hnew:aNew (w.push (.cells new e1 w.next 0 0)) size 1 (.slice (some ⟨w.next,0,none⟩) 1 1)=some new:=by
  have:aFirst (w.push (.cells new e1 w.next 0 0)) size 1 (.slice (some ⟨w.next,0,none⟩) 1 1)=some new:=by
   show aCells _ w.next 0 (1 * size)=_
   rw[Nat.one_mul,<- hlen]
   exact aCells_of new 0 fun k v hv=>by rw[Nat.zero_add];exact hO.cell hv (h1 v (List.mem_of_getElem? hv))
  unfold aNew
  rw[this]
 clear hO hv
 generalize w.push (.cells new e1 w.next 0 0)=u at *
 have cond:(Nat.beq z2.cells.size size && Nat.ble (n+1) room && Nat.ble ((n+1) * b2) room && Nat.ble 1 size && Nat.beq ty ty)=true:=by
  have:room=140737488355328:=rfl
  have hp:=Nat.mul_le_mul hroom hb2
  simp only[Bool.and_eq_true]
  exact⟨⟨⟨⟨by rw[hz];exact Nat.beq_refl _,Nat.ble_eq_true_of_le (by omega)⟩,Nat.ble_eq_true_of_le (by omega)⟩,Nat.ble_eq_true_of_le hs⟩,Nat.beq_refl _⟩
 have hle:∀ k,Nat.ble (k+1) k=false:=fun k=>by
  cases q:Nat.ble (k+1) k with
  | false=>rfl
  | true=>have:=Nat.le_of_ble_eq_true q;omega
 have hfull:u.full=false:=rfl
 rcases hv1 with ⟨rfl,rfl,rfl⟩|⟨b,o,r,off,all,rfl,q1,q2,q3,q4,q5,q6,rfl,q8,q9,q7⟩
 · refine ⟨.slice (some ⟨u.next,0,none⟩) (0+1) (0+1),u.push (.cells ([]++new) e u.next 0 size),?_,.inr ⟨u.next,0,u.next,0,[]++new,rfl,by omega,by rw[AW.next_push];omega,by omega,by rw[AW.next_push];omega,blk_push_top _ _,by simp[hlen],rfl,by simpa using h1,?_,fun j hj=>?_⟩,kp.push (by omega) _,f1.push _,hp.trans (Apnd.push u _)⟩
   . have hnil:aFirst u size 0 (.slice none 0 0)=some []:=rfl
     unfold append
     simp only[h,h2,cond,hnew,hle,hnil,AW.grow,hfull]
   . rw[AW.family_push,f1.2 _ (Nat.le_refl _)]
     simp only[members,List.mem_singleton]
   . rw[AW.family_push,f1.2 _ (Nat.le_refl _)]at hj
     simp only[members,List.mem_singleton]at hj
     subst hj
     exact⟨by omega,by rw[AW.next_push];omega,_,_,_,blk_push_top _ _,Nat.le_refl _⟩
 · have hsz0:Nat.beq size 0=false:=by rw[nbeq];simp;omega
   have hszz:Nat.beq size size=true:=Nat.beq_refl _
   have hdl:(all.drop o).length=n * size:=by rw[List.length_drop];omega
   have hold:aFirst u size n (.slice (some ⟨b,o,none⟩) n n)=some (all.drop o):=by
    show aCells u b o (n * size)=some (all.drop o)
    rw[<- hdl]
    exact aCells_of (all.drop o) o fun i y hy=>by
     rw[List.getElem?_drop]at hy
     simp only[AW.cell?,q5,getL_eq,hy,q8 y (List.mem_of_getElem? hy)]
   have hstr:struckOver u.next (members (u.family r) r) (1 * size) (off+o+n * size) u=u:=struckOver_noneO _ _ _ _ _ fun j hj=>by
    obtain⟨_,_,c,e',o',a,b⟩:=q7 j hj
    exact⟨c,e',r,o',size,a,by omega⟩
   have hbk:∀ j,(u.lay r (members (u.family r) r) (.cells (all.drop o++new) e r (off+o) size)).blk j=if j=u.next then some (.cells (all.drop o++new) e r (off+o) size) else u.blk j:=fun j=>AW.blk_lay _ _ _ _ _ (Trie.in_ _) (Trie.in_ _)
   have hfm:∀ j,(u.lay r (members (u.family r) r) (.cells (all.drop o++new) e r (off+o) size)).family j=if j=r then u.next :: members (u.family r) r else u.family j:=fun j=>AW.family_lay _ _ _ _ _ (Trie.in_ _) (Trie.in_ _)
   have hmm:members (u.next :: members (u.family r) r) r=u.next :: members (u.family r) r:=rfl
   have kl:Keep B u (u.lay r (members (u.family r) r) (.cells (all.drop o++new) e r (off+o) size)):=⟨fun i hi=>by rw[hbk,if_neg (by omega)],fun i hi=>by rw[hfm,if_neg (by omega)],by rw[AW.next_lay];omega⟩
   refine⟨.slice (some ⟨u.next,0,none⟩) (n+1) (n+1),u.lay r (members (u.family r) r) (.cells (all.drop o++new) e r (off+o) size),?_,.inr ⟨u.next,0,r,off+o,all.drop o++new,rfl,by omega,by rw[AW.next_lay];omega,q3,by rw[AW.next_lay];omega,by rw[hbk,if_pos rfl],by rw[List.length_append,hdl,hlen,Nat.add_mul];omega,rfl,fun y hy=>?_,?_,fun j hj=>?_⟩,kp.trans kl,⟨fun i hi=>?_,fun i hi=>?_⟩,hp.trans ⟨fun j hj=>by rw[hbk,if_neg (by omega)],fun j c e' hj hb hfam=>?_,by rw[AW.next_lay];omega⟩⟩
   . unfold append
     simp only[h,h2,cond,hnew,hle,hold,AW.grow,hfull,q5,hsz0,hszz,hstr]
   . rcases List.mem_append.mp hy with q|q
     . exact q8 y (List.mem_of_mem_drop q)
     . exact h1 y q
   . rw[hfm,if_pos rfl,hmm]
     exact List.mem_cons_of_mem _ q9
   · rw [hfm,if_pos rfl,hmm]at hj
     rcases List.mem_cons.mp hj with q|q
     . subst q
       exact⟨by omega,by rw[AW.next_lay];omega,_,_,_,by rw[hbk,if_pos rfl],Nat.le_refl _⟩
     . obtain⟨c1,c2,c,e',o',c3,c4⟩:=q7 j q
       exact⟨c1,by rw[AW.next_lay];omega,c,e',o',by rw[hbk,if_neg (by omega)];exact c3,by rw[List.length_append,hdl,hlen];omega⟩
   . rw[AW.next_lay]at hi
     rw[hbk,if_neg (by omega)];exact f1.1 i (by omega)
   . rw[AW.next_lay]at hi
     rw[hfm,if_neg (by omega)];exact f1.2 i (by omega)
   · rw [hfm]
     split
     . rename_i hjr
       subst hjr
       obtain⟨_,_,c2,e2,o2,hc2,_⟩:=q7 j q9
       rw[hb]at hc2
       injection hc2 with hc2
       injection hc2 with _ _ _ _ hz0
       omega
     . rfl
theorem QOwn.cut {B:Nat} {w:AW} {e:TypeId} {size n:Nat} {v:Value} {cells:List Value} (h:QOwn B w e size v (n+1) cells) :
    ∃ b o v',v=.slice (some ⟨b,o,none⟩) (n+1) (n+1)/\B≤b/\b < w.next/\(∀ (i:Nat) (y:Value),cells[i]? = some y->w.cell? ⟨b,o+i,none⟩=some y)/\sliceV w size v (some (.int .i64 1)) none=some v'/\QOwn B w e size v' n (cells.drop size):=by
 rcases h with ⟨_,h,_⟩|⟨b,o,r,off,all,rfl,a2,a3,a4,a5,a6,a7,rfl,a9,a10,a11⟩
 . omega
 have hszz:(Nat.beq size size || Nat.beq size 0 && (Nat.beq 1 0 || Nat.blt 1 (n+1)))=true:=by
  rw[Nat.beq_refl];rfl
 refine⟨b,o,.slice (some ⟨b,o+1 * size,none⟩) (n+1 - 1) (n+1 - 1),rfl,a2,a3,fun i y hy=>?_,?_,.inr ⟨b,o+1 * size,r,off,all,rfl,a2,a3,a4,a5,a6,?_,by rw[List.drop_drop,Nat.one_mul],a9,a10,a11⟩⟩
 . rw[List.getElem?_drop]at hy
   simp only[AW.cell?,a6,getL_eq,hy,a9 y (List.mem_of_getElem? hy)]
 · have h1:(Nat.ble 1 (n+1) && Nat.ble (n+1) (n+1))=true:=by
     rw[Bool.and_eq_true];exact⟨Nat.ble_eq_true_of_le (by omega),Nat.ble_eq_true_of_le (Nat.le_refl _)⟩
   have hl:natOr 0 (some (.int .i64 1))=some 1:=rfl
   have hh:natOr (n+1) none=some (n+1):=rfl
   unfold sliceV
   simp only[hl,hh,h1,a6,hszz]
 . rw[Nat.add_mul,Nat.one_mul]at a7
   rw[Nat.one_mul];omega
theorem QOwn.one {B:Nat} {w:AW} {e:TypeId} {size n:Nat} {v:Value} {cells:List Value} (h:QOwn B w e size v n cells):∃ p c,v=.slice p n c:=by
 rcases h with ⟨rfl,rfl,_⟩|⟨_,_,_,_,_,rfl,_⟩
 . exact⟨_,_,rfl⟩
 . exact⟨_,_,rfl⟩
end Go.Sim

namespace Go.Proofs
open Go Go.RowKit Go.Sim
set_option maxRecDepth 100000
theorem Tryz.lk130 (t:Tmps) (w:AW) (x y:Operand) (ok:Bool):fast (prg Tryz.prog) t w (.lookup 130 x y ok)=lookupV w (.int .i64) (.bool false) (ev t x) (ev t y) ok:=by simp only[fast,Tryz.ty130,Tryz.ty78,Tryz.ty4,simpleKey]
theorem Tryz.bs129 (t:Tmps) (l:List (Nat × Operand)):makes (prg Tryz.prog) t (.buildSlice 129 1 ⟨l⟩)=bsQ 132 1 6 [.slice none 0 0,.slice none 0 0,.slice none 0 0,.int .i64 0,.int .i64 0,.slice none 0 0] (l.map fun p=>(p.1,ev t p.2)):=makes_bs Tryz.ty129 Tryz.ty132 rfl (by kernel_rfl)
attribute [go_sem] Tryz.lk130 Tryz.bs129
theorem bld132 (a b c d e:Value) {x:Value} (h:oneCell x=true):bldQ [(0,5),(5,1)] [.slice none 0 0,.slice none 0 0,.slice none 0 0,.int .i64 0,.int .i64 0,.slice none 0 0] [(0,.agg #[a,b,c,d,e]),(1,x)]=some (.agg #[a,b,c,d,e,x]):=by
 have q:(Value.agg #[a,b,c,d,e]).cells = #[a,b,c,d,e]:=rfl
 simp[bldQ,Instr.fill,getL,cells_one h,q]
theorem bsl132 (a b c d e x:Value):bsQ 132 1 6 [.slice none 0 0,.slice none 0 0,.slice none 0 0,.int .i64 0,.int .i64 0,.slice none 0 0] [(0,.agg #[a,b,c,d,e,x])]=some ([a,b,c,d,e,x],132,fun b=>.slice (some ⟨b,0,none⟩) 1 1):=by
 simp[bsQ,Instr.fill,Value.cells]
def WayAt (w:AW) (v:Value) (l:List Nat):Prop:=(v=.slice none 0 0/\l=[]) \/ (1≤l.length/\ArrOf w 1 icells v (natsL l))
theorem WayAt.one {w:AW} {v:Value} {l:List Nat} (h:WayAt w v l):oneCell v=true:=by
 rcases h with ⟨rfl,_⟩|⟨_,h⟩
 . rfl
 . exact h.oneCell
theorem WayAt.arr {w:AW} {v:Value} {l:List Nat} (h:WayAt w v l):ArrOf w 1 icells v (natsL l):=by
 rcases h with ⟨rfl,rfl⟩|⟨_,h⟩
 . exact .nil _ _ _
 . exact h
theorem WayAt.grown {w w':AW} {v:Value} {l:List Nat} (h:WayAt w v l) (g:Grown w w'):WayAt w' v l:=h.imp (fun h=>h) fun h=>⟨h.1,h.2.grown g⟩
theorem WayAt.app {w w':AW} {v:Value} {l:List Nat} (h:WayAt w v l) (g:Apnd w w'):WayAt w' v l:=h.imp (fun h=>h) fun h=>⟨h.1,Arr.app h.2 g⟩
def NoInt (w:AW) (k:Nat):Prop:=∀ o q x,w.cell? ⟨k,o,none⟩ ≠ some (.int q x)
theorem WayAt.mutS {S:Nat->Prop} {w w':AW} {v:Value} {l:List Nat} (h:WayAt w v l) (m:MutS S w w') (hk:∀ j,S j->NoInt w j):WayAt w' v l:=by
 rcases h with h|⟨h1,p,n,cap,a,b,c,c2,d⟩
 . exact .inl h
 refine .inr ⟨h1,p,n,cap,a,b,c,c2,fun hn=>?_⟩
 obtain⟨bb,o,e,f,g⟩:=d hn
 refine⟨bb,o,e,by have:=m.next;omega,fun i j r x hr hx=>?_⟩
 have h0:=g i j r x hr hx
 have hne:¬ S bb:=by
  intro hS
  rw[List.getElem?_map]at hr
  obtain⟨y,hy,rfl⟩:=Option.map_eq_some_iff.mp hr
  cases j with
  | succ j=>simp[icells]at hx
  | zero =>
   simp only[icells,List.getElem?_cons_zero,Option.some.injEq]at hx
   subst hx
   exact hk _ hS _ _ _ h0
 simp only[AW.cell?,m.blk bb f hne]at h0 ⊢
 exact h0
theorem WayAt.put {w w':AW} {v:Value} {l:List Nat} {k:Nat} (h:WayAt w v l) (m:MutS (fun j=>j=k) w w') (hk:NoInt w k):WayAt w' v l :=
 h.mutS m fun j hj=>by rw[hj];exact hk
theorem noInt_own {w:AW} {k:Nat} {e:TypeId} {c:List Value} (h:Own w k e c) (hc:∀ v ∈ c,∀ q x,v ≠ .int q x):NoInt w k:=fun o q x z=>by
 simp only[AW.cell?,h.blk,getL_eq]at z
 split at z
 · rename_i v hv
   split at z
   . injection z with z
     exact hc v (List.mem_of_getElem? hv) _ _ z
   . cases z
 . cases z
theorem noInt_map {w:AW} {k:Nat} {es:Array MapEntry} {c:Nat} (h:w.blk k=some (.map es c)):NoInt w k:=fun o q x z=>by
 simp only[AW.cell?,h]at z
 cases z
def stopC (pR pG pS:Option Addr) (cR cG cS:Nat) (s:StrN) (g:Nat) (y:(List Nat × Nat) × Value):List Value:=tourC pR pG pS cR cG cS s g y.1.2++[y.2]
theorem stopC_len (pR pG pS:Option Addr) (cR cG cS:Nat) (s:StrN) (g:Nat) (y:(List Nat × Nat) × Value):(stopC pR pG pS cR cG cS s g y).length=6:=rfl
def QAt (B:Nat) (pR pG pS:Option Addr) (cR cG cS:Nat) (s:StrN) (g:Nat) (w:AW) (v:Value) (Q:Ways):Prop :=
 ∃ xs:List ((List Nat × Nat) × Value),xs.map Prod.fst=Q/\QOwn B w 132 6 v xs.length (xs.flatMap (stopC pR pG pS cR cG cS s g))/\∀ y ∈ xs,WayAt w y.2 y.1.1
section
variable {B:Nat} {pR pG pS:Option Addr} {cR cG cS:Nat} {s:StrN} {g:Nat} {w w':AW} {v:Value} {Q:Ways}
theorem QAt.grown (h:QAt B pR pG pS cR cG cS s g w v Q) (k:Grown w w'):QAt B pR pG pS cR cG cS s g w' v Q:=by
 obtain⟨xs,h1,h2,h3⟩:=h
 exact⟨xs,h1,h2.grown k,fun y hy=>(h3 y hy).grown k⟩
theorem QAt.put {k:Nat} (h:QAt B pR pG pS cR cG cS s g w v Q) (m:MutS (fun j=>j=k) w w') (hk:NoInt w k) (hz:∀ c e r o,w.blk k ≠ some (.cells c e r o 6)):QAt B pR pG pS cR cG cS s g w' v Q:=by
 obtain⟨xs,h1,h2,h3⟩:=h
 exact⟨xs,h1,h2.mut m fun j hj _=>by rw[hj];exact hz,fun y hy=>(h3 y hy).put m hk⟩
end
theorem own_not6 {w:AW} {k:Nat} {e:TypeId} {c:List Value} (h:Own w k e c):∀ c e r o,w.blk k ≠ some (.cells c e r o 6):=fun c' e' r o z=>by
 rw[h.blk]at z
 injection z with z
 injection z with _ _ _ _ z
 cases z
theorem map_not6 {w:AW} {k:Nat} {es:Array MapEntry} {c:Nat} (h:w.blk k=some (.map es c)):∀ c e r o,w.blk k ≠ some (.cells c e r o 6):=fun c' e' r o z=>by
 rw[h]at z
 cases z
structure BfsAt (W0:AW) (b0:Nat) (pR pG pS:Option Addr) (cR cG cS:Nat) (s:StrN) (g room:Nat) (S:List Nat) (Q:Ways) (w:AW):Prop where
 oR:Own w (b0+1) 3 [.int .i64 (room:Int)]
 oF:Own w (b0+2) 24 [.slice none 0 0]
 oO:Own w (b0+3) 4 [.bool false]
 q:∃ vq,Own w (b0+4) 129 [vq]/\QAt W0.next pR pG pS cR cG cS s g w vq Q
 map:MapI w (b0+5) (natsL S)
 oS:Own w (b0+6) 130 [.map (some (b0+5))]
 oV:Own w (b0+7) 133 [.func (.func 87) #[] #[.pointer (some ⟨b0+6,0,none⟩),.pointer (some ⟨b0+4,0,none⟩)]]
 keep:Keep W0.next W0 w
 fresh:Fresh w
 bnd:W0.next≤b0
section
variable {W0:AW} {b0:Nat} {pR pG pS:Option Addr} {cR cG cS:Nat} {s:StrN} {g room:Nat} {S:List Nat} {Q:Ways} {w w':AW}
theorem BfsAt.grown (h:BfsAt W0 b0 pR pG pS cR cG cS s g room S Q w) (k:Grown w w'):BfsAt W0 b0 pR pG pS cR cG cS s g room S Q w':=by
 obtain⟨vq,q1,q2⟩:=h.q
 exact⟨h.oR.keep k.1,h.oF.keep k.1,h.oO.keep k.1,⟨vq,q1.keep k.1,q2.grown k⟩,h.map.other (S:=fun _=>False) (.of k) fun z=>z,h.oS.keep k.1,h.oV.keep k.1,h.keep.trans (k.1.mono h.keep.next),k.2,h.bnd⟩
theorem BfsAt.put {k:Nat} (h:BfsAt W0 b0 pR pG pS cR cG cS s g room S Q w) (m:MutS (fun j=>j=k) w w') (hk:NoInt w k) (hz:∀ c e r o,w.blk k ≠ some (.cells c e r o 6)) (hb:b0+7 < k):BfsAt W0 b0 pR pG pS cR cG cS s g room S Q w':=by
 obtain⟨vq,q1,q2⟩:=h.q
 have:=h.bnd
 have:=h.keep.next
 exact⟨m.own h.oR (by omega),m.own h.oF (by omega),m.own h.oO (by omega),⟨vq,m.own q1 (by omega),q2.put m hk hz⟩,h.map.other m (by omega),m.own h.oS (by omega),m.own h.oV (by omega),h.keep.trans (m.keep (fun j q=>by omega) (by omega)),m.fresh,h.bnd⟩
end
structure VisW (b0:Nat) (w w':AW):Prop where
 blk:∀ j,j < w.next->j ≠ b0+4->j ≠ b0+5->w'.blk j=w.blk j
 own:∀ j c e,Own w j e c->j ≠ b0+4->j ≠ b0+5->Own w' j e c
 way:∀ v l,WayAt w v l->WayAt w' v l
 next:w.next≤w'.next
theorem nats_snoc (S:List Nat) (r:Nat):natsL (S++[r])=natsL S++[(r:Int)]:=by
 unfold natsL;rw[List.map_append];rfl
set_option maxHeartbeats 16000000 in
theorem visit_ok {W0:AW} {b0:Nat} {pR pG pS:Option Addr} {cR cG cS:Nat} {s:StrN} {g room:Nat} {S:List Nat} {Q:Ways} {l:List Nat} {r:Nat} {x:Value} (w:AW) (h:BfsAt W0 b0 pR pG pS cR cG cS s g room S Q w) (hx:WayAt w x l) (hQ:Q.length≤1000) :
    CallT Tryz.prog Tryz.T1 (.fn (.func 87) #[.pointer (some ⟨b0+6,0,none⟩),.pointer (some ⟨b0+4,0,none⟩)]) #[.agg (tourC pR pG pS cR cG cS s g r).toArray,x] w (fun _ w'=>BfsAt W0 b0 pR pG pS cR cG cS s g room (seeS S r) (seeQ S Q (l,r)) w'/\VisW b0 w w'):=by
 have g1:=(Grown.refl h.fresh).push (.cells (tourC pR pG pS cR cG cS s g r) 80 w.next 0 0)
 have O1:=Own.new h.fresh 80 (tourC pR pG pS cR cG cS s g r)
 have h1:=h.grown g1
 have hx1:=hx.grown g1
 have hxo:=hx.one
 have hlt:b0+7 < w.next:=h.oV.lt
 generalize hw1:w.push (.cells (tourC pR pG pS cR cG cS s g r) 80 w.next 0 0)=w1 at *
 have hcS1:=h1.oS.cell (o:=0) (v:=.map (some (b0+5))) rfl rfl
 have c4:=O1.cell (o:=4) (v:=.int .i64 (r:Int)) rfl rfl
 have hlk:=h1.map.lookup (r:Int)
 rw[nats_has]at hlk
 have hn1:w1.next=w.next+1:=by rw[<- hw1,AW.next_push]
 cases hc:S.contains r with
 | true =>
  rw[hc]at hlk
  have hin:r ∈ S:=List.contains_iff_mem.1 hc
  unfold tourC at *
  refine callT_code rfl Tryz.func87 rfl Tryz.s87_eq rfl ?_
  delta Tryz.s87 zo zon zv
  simp -dsimp -implicitDefEqProofs (maxSteps:=2000000) (disch:=first|assumption|omega|simp only[nx];omega|(repeat apply zfp);assumption|simp only[smA];done|simp[oneCell,znp]) only[go_sem,hw1,hcS1,c4,hlk,Nat.zero_add]
  refine⟨by unfold seeS seeQ;rw[if_pos hin,if_pos hin];exact h1,fun j hj _ _=>g1.1.blk j hj,fun j c e o _ _=>o.keep g1.1,fun v l q=>q.grown g1,by omega⟩
 | false =>
 rw[hc]at hlk
 have hin:¬ r ∈ S:=fun z=>by rw[List.contains_iff_mem.2 z]at hc;cases hc
 obtain⟨bk,st2,M2⟩:=h1.map.add Tryz.ty130 Tryz.ty78 (r:Int) (by rw[nats_has];exact hc)
 have m2:=MutS.put (S:=fun j=>j=b0+5) h1.fresh rfl h1.map.lt bk
 have hmap:∃ es c,w1.blk (b0+5)=some (.map es c):=by obtain⟨⟨es,c,z,_⟩,_⟩:=h1.map;exact⟨es,c,z⟩
 obtain⟨es,ck,hmb⟩:=hmap
 obtain⟨vq,oq1,q1⟩:=h1.q
 have q2:=q1.put m2 (noInt_map hmb) (map_not6 hmb)
 have hx2:=hx1.put m2 (noInt_map hmb)
 have oR2:=m2.own h1.oR (by omega)
 have oF2:=m2.own h1.oF (by omega)
 have oO2:=m2.own h1.oO (by omega)
 have oq2:=m2.own oq1 (by omega)
 have oS2:=m2.own h1.oS (by omega)
 have oV2:=m2.own h1.oV (by omega)
 have O12:=m2.own O1 (by omega)
 have hb:=h.bnd
 have k1:=h1.keep.next
 have k2:Keep W0.next W0 (w1.put (b0+5) bk):=h1.keep.trans (m2.keep (fun j q=>by omega) (by omega))
 have hn2:(w1.put (b0+5) bk).next=w1.next:=AW.next_put _ _ _
 generalize hw2:w1.put (b0+5) bk=w2 at *
 obtain⟨xs,e1,Q2,e3⟩:=q2
 have hxl:xs.length≤1000:=by rw[<- e1,List.length_map]at hQ;exact hQ
 obtain ⟨v3,w3,happ,Q3,k3,f3,a3⟩:=Q2.more (e1:=132) Tryz.ty129 Tryz.ty132 rfl (by omega) (by omega) m2.fresh (by omega) (new:=stopC pR pG pS cR cG cS s g ((l,r),x)) rfl (fun y hy=>by
  simp only[stopC,tourC,List.cons_append,List.nil_append,List.mem_cons,List.not_mem_nil,or_false]at hy
  rcases hy with rfl|rfl|rfl|rfl|rfl|rfl
  . rfl
  . rfl
  . rfl
  . rfl
  . rfl
  . exact hxo) (by omega)
 have oq3:=oq2.app a3
 have v31:oneCell v3=true:=by obtain⟨p,c,rfl⟩:=Q3.one;rfl
 have st4:=storeV_own1 (o:=0) (v:=v3) oq3 (by simp) v31
 simp only[setL]at st4
 have m4:=MutS.put (S:=fun j=>j=b0+4) f3 rfl oq3.lt (.cells [v3] 129 (b0+4) 0 0)
 have hlq:=oq2.cell (o:=0) (v:=vq) rfl (by obtain⟨p,c,rfl⟩:=Q2.one;rfl)
 have hl2:=loadAll O12 (n:=5) rfl (by simp[tourC,oneCell])
 have hn3:=a3.next
 have no3:NoInt w3 (b0+4):=noInt_own oq3 fun v hv q y=>by
  rw[List.mem_singleton.1 hv]
  obtain⟨p,c,rfl⟩:=Q2.one
  intro z;cases z
 have hcS2:=oS2.cell (o:=0) (v:=.map (some (b0+5))) rfl rfl
 have c42:=O12.cell (o:=4) (v:=.int .i64 (r:Int)) rfl rfl
 have hpost:BfsAt W0 b0 pR pG pS cR cG cS s g room (seeS S r) (seeQ S Q (l,r)) (w3.put (b0+4) (.cells [v3] 129 (b0+4) 0 0))/\VisW b0 w (w3.put (b0+4) (.cells [v3] 129 (b0+4) 0 0)):=by
  refine⟨⟨m4.own (oR2.app a3) (by omega),m4.own (oF2.app a3) (by omega),m4.own (oO2.app a3) (by omega),⟨v3,oq3.put [v3],xs++[((l,r),x)],?_,?_,fun y hy=>?_⟩,?_,m4.own (oS2.app a3) (by omega),m4.own (oV2.app a3) (by omega),(k2.trans k3).trans (m4.keep (fun j q=>by omega) (by have:=k2.next;omega)),m4.fresh,hb⟩,fun j hj hj4 hj5=>?_,fun j c e o hj4 hj5=>?_,fun v l q=>?_,?_⟩
  . unfold seeQ;rw[if_neg hin,List.map_append,e1];rfl
  . rw[List.length_append,List.flatMap_append]
    have:([((l,r),x)]:List ((List Nat × Nat) × Value)).flatMap (stopC pR pG pS cR cG cS s g)=stopC pR pG pS cR cG cS s g ((l,r),x):=by simp
    rw[this]
    exact Q3.mut m4 fun j hj _=>by rw[hj];exact own_not6 oq3
  · rcases List.mem_append.1 hy with hy|hy
    . exact ((e3 y hy).app a3).put m4 no3
    . rw[List.mem_singleton.1 hy]
      exact (hx2.app a3).put m4 no3
  · have M3:MapI w3 (b0+5) (natsL S++[(r:Int)]):=by
      obtain⟨⟨es,c,z1,z2⟩,z3⟩:=M2
      exact⟨⟨es,c,by rw[a3.blk _ z3];exact z1,z2⟩,by omega⟩
    unfold seeS;rw[if_neg hin,nats_snoc]
    exact M3.other m4 (by omega)
  . rw[m4.blk j (by omega) hj4,a3.blk j (by omega),m2.blk j (by omega) hj5,g1.1.blk j hj]
  . exact m4.own ((m2.own (o.keep g1.1) hj5).app a3) hj4
  . exact (((q.grown g1).put m2 (noInt_map hmb)).app a3).put m4 no3
  . rw[AW.next_put];omega
 unfold stopC tourC at happ
 simp only[List.cons_append,List.nil_append]at happ
 unfold tourC at *
 refine callT_code rfl Tryz.func87 rfl Tryz.s87_eq rfl ?_
 delta Tryz.s87 zo zon zv
 simp -dsimp -implicitDefEqProofs (maxSteps:=2000000) (disch:=first|assumption|omega|simp only[nx];omega|(repeat apply zfp);assumption|simp only[smA];done|simp[oneCell,znp]) only[go_sem,hw1,hcS1,c4,hlk,st2,hw2,hcS2,c42,hlq,hl2,bld132 _ _ _ _ _ hxo,bsl132,happ,st4,Nat.zero_add]
 exact hpost
end Go.Proofs

namespace Go.Proofs
open Go Go.RowKit Go.Sim
set_option maxRecDepth 100000
def Tryz.s58:SC:=(.seq (.ops false [zo 2 (.box 26 (zv 0)) 0,zo 4 (.assign (zk 0)) 27]) (.seq (.seq (.ops false [zo 6 (.load 26 (zv 2)) 26,zo 7 (.call ⟨.value (.func 17),⟨[(zv 6)]⟩,⟨[26]⟩⟩) 27,zo 5 (.assign (zv 7)) 27]) (.seq (.ops false [zo 8 (.move (zv 5)) 27,zo 9 (.binOp .neq 27 (zv 8) (zk 0) 27) 4]) (.cond (.tmp 9) (.seq (.ops false [zo 10 (.move (zv 5)) 27,zo 4 (.assign (zv 10)) 27]) .ret) .skip))) (.seq (.seq (.ops false [zo 11 (.move (zv 1)) 3,zo 12 (.fieldAddr 26 (zv 2) 0) 0,zo 13 (.load 22 (zv 12)) 22,zo 14 (.call ⟨.builtin .len,⟨[(zv 13)]⟩,⟨[22]⟩⟩) 3,zo 15 (.call ⟨.value (.func 73),⟨[(zv 11),(zv 14)]⟩,⟨[3,3]⟩⟩) 4,zo 16 (.unOp .not 4 (zv 15)) 4]) (.cond (.tmp 16) (.seq (.ops false [zo 4 (.assign (zk 7)) 27]) .ret) .skip)) (.seq (.ops false [zo 4 (.assign (zk 0)) 27]) .ret))))
theorem Tryz.s58_eq:Tryz.f58.body.map sOf=some Tryz.s58:=by kernel_rfl
end Go.Proofs
