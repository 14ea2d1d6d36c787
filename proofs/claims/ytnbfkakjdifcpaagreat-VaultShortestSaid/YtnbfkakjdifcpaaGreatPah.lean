/- This program: its code, contracts, numbers, part 8. -/
import Derived.Test.YtnbfkakjdifcpaaGreatPab
import Derived.Test.YtnbfkakjdifcpaaGreatNa
import Derived.Test.YtnbfkakjdifcpaaGreatPae
import Derived.Test.YtnbfkakjdifcpaaGreatChecked
import Derived.Test.YtnbfkakjdifcpaaGreatPaf
import Derived.Test.YtnbfkakjdifcpaaGreatPag
import Derived.Test.YtnbfkakjdifcpaaGreatPaa
import Derived.Test.YtnbfkakjdifcpaaGreatNc
import Derived.Test.YtnbfkakjdifcpaaGreatProg
import Derived.Shelf.SlSortCmp.NoneTotal
import Derived.Ground.SlsfProg
import Derived.Lib.RowBridge
import Derived.Lib.SortBridge
import Derived.WalkKit
import Derived.Test.YtnbfkakjdifcpaaGreatPad
import Derived.Test.YtnbfkakjdifcpaaGreatRows
import Derived.ProofKit
import Derived.SizedLaws
set_option linter.unusedVariables false
set_option linter.unusedSimpArgs false
namespace Go.Proofs
open Go Go.RowKit Go.Sim
set_option maxRecDepth 100000
theorem Tryz.fa36x0 (t:Tmps) (w:AW) (x:Operand):fast (prg Tryz.prog) t w (.fieldAddr 36 x 0)=fieldOff (ev t x) 0:=fast_fieldAddr (fd := ⟨ "Group",3,0,false, "", "",0⟩) Tryz.ty36 rfl Tryz.ty3 rfl
attribute [go_sem] Tryz.fa36x0
theorem Tryz.fa36x1 (t:Tmps) (w:AW) (x:Operand):fast (prg Tryz.prog) t w (.fieldAddr 36 x 1)=fieldOff (ev t x) 1:=fast_fieldAddr (fd := ⟨ "Room",3,1,false, "", "",8⟩) Tryz.ty36 rfl Tryz.ty3 rfl
attribute [go_sem] Tryz.fa36x1
theorem Tryz.fa36x2 (t:Tmps) (w:AW) (x:Operand):fast (prg Tryz.prog) t w (.fieldAddr 36 x 2)=fieldOff (ev t x) 2:=fast_fieldAddr (fd := ⟨ "Way",24,2,false, "", "",16⟩) Tryz.ty36 rfl Tryz.ty24 rfl
attribute [go_sem] Tryz.fa36x2
theorem Tryz.undV36:Tryz.prog.underlying 36=some (.struct #[⟨ "Group",3,0,false, "", "",0⟩, ⟨ "Room",3,1,false, "", "",8⟩, ⟨ "Way",24,2,false, "", "",16⟩]):=by kernel_rfl
theorem given_trip {w:AW} {n:Nat} {v:Value} (h:HdV Tryz.prog w n 36 v):∃ (x room:Int) (p:Option Addr) (c:Nat) (L:List Int),v=.agg #[.int .i64 x,.int .i64 room,.slice p L.length c]/\ArrOf w 1 icells (.slice p L.length c) L:=by
 simp only[HdV,Tryz.undV36]at h
 obtain⟨cs,rfl,h⟩:=h
 cases n with
 | zero=>exact h.elim
 | succ n =>
  simp only[Hd,Tryz.undV36]at h
  obtain⟨parts,hc,hl,hp⟩:=h
  match parts,hl with
  | [p0,p1,p2],_ =>
   obtain⟨x,rfl⟩:=given_intV (hp 0 _ p0 rfl rfl)
   obtain⟨room,rfl⟩:=given_intV (hp 1 _ p1 rfl rfl)
   obtain⟨u,rfl,L,hL⟩:=given_intsW (hp 2 _ p2 rfl rfl)
   obtain⟨p,c,rfl,_⟩:=id hL.open
   refine⟨x,room,p,c,L,?_,hL⟩
   rw[show cs=cs.toList.toArray from rfl,hc];rfl
def aheadB:List Int->List Int->Bool
 | x :: a,y :: b=>if x=y then aheadB a b else decide (x < y)
 | a,b=>decide (a.length < b.length)
theorem aheadB_pre:∀ (i:Nat) (a b:List Int),i≤a.length->i≤b.length->a.take i=b.take i->aheadB a b=aheadB (a.drop i) (b.drop i)
 | 0,a,b,_,_,_=>by simp
 | i+1,[],b,h,_,_=>by simp at h
 | i+1,_ :: _,[],_,h,_=>by simp at h
 | i+1,x :: a,y :: b,h1,h2,h=>by
  rw[List.take_succ_cons,List.take_succ_cons,List.cons.injEq]at h
  rw[aheadB,if_pos h.1,List.drop_succ_cons,List.drop_succ_cons]
  exact aheadB_pre i a b (by simpa using h1) (by simpa using h2) h.2
theorem aheadB_end {a b:List Int} (h:a=[] \/ b=[]):aheadB a b=decide (a.length < b.length):=by
 rcases h with rfl|rfl
 . cases b <;> rfl
 . cases a <;> rfl
theorem aheadB_refl:∀ a:List Int,aheadB a a=false
 | []=>rfl
 | x :: a=>by rw[aheadB,if_pos rfl];exact aheadB_refl a
theorem aheadB_asymm:∀ {a b:List Int},a.length=b.length->aheadB a b=true->aheadB b a=false
 | [],[],_,h=>by cases h
 | [],_ :: _,h,_=>by cases h
 | _ :: _,[],h,_=>by cases h
 | x :: a,y :: b,hl,h=>by
  rw[aheadB]at h ⊢
  by_cases q:x=y
  . rw[if_pos q]at h
    rw[if_pos q.symm]
    exact aheadB_asymm (by simpa using hl) h
  . rw[if_neg q,decide_eq_true_eq]at h
    rw[if_neg fun z=>q z.symm,decide_eq_false_iff_not]
    omega
theorem aheadB_app:∀ {a b:List Int} (c d:List Int),a.length=b.length->aheadB a b=true->aheadB (a++c) (b++d)=true
 | [],[],_,_,_,h=>by cases h
 | [],_ :: _,_,_,h,_=>by cases h
 | _ :: _,[],_,_,h,_=>by cases h
 | x :: a,y :: b,c,d,hl,h=>by
  rw[List.cons_append,List.cons_append,aheadB]
  rw[aheadB]at h
  by_cases q:x=y
  . rw[if_pos q]at h ⊢
    exact aheadB_app c d (by simpa using hl) h
  . rw[if_neg q]at h ⊢
    exact h
theorem aheadB_snoc:∀ (a:List Int) {i j:Int},i < j->aheadB (a++[i]) (a++[j])=true
 | [],i,j,h=>by
  show aheadB [i] [j]=true
  rw[aheadB,if_neg (by omega)]
  exact decide_eq_true h
 | x :: a,i,j,h=>by
  rw[List.cons_append,List.cons_append,aheadB,if_pos rfl]
  exact aheadB_snoc a h
theorem step_sub {s:StrN} {g r x:Nat} {gt:GateN} (hx:ClosedN s g x) (hr:Sub r x) (hm:gt ∈ s.gates) (hst:stepB s g r gt=true):Sub (nextR r gt) x:=by
 have hc:=hx gt hm
 unfold stepB at hst hc
 rw[Bool.and_eq_true]at hst
 rw[open_mono (MoreS.refl s) (Sub.refl g) hr hst.2,Bool.and_true]at hc
 unfold nextR
 generalize gt.A.toNat=A at *
 generalize gt.B.toNat=B at *
 have hAB:x.testBit A=x.testBit B:=by simpa using hc
 have hne:=hst.1
 have:x.testBit A=true/\x.testBit B=true:=by
  cases qa:r.testBit A with
  | true=>have:=hr A qa;exact⟨this,by rw[<- hAB];exact this⟩
  | false =>
   cases qb:r.testBit B with
   | true=>have:=hr B qb;exact⟨by rw[hAB];exact this,this⟩
   | false=>rw[qa,qb]at hne;simp at hne
 exact sub_or hr (sub_or (fun k hk=>by rw[<- bit_pow.1 hk];exact this.1) (fun k hk=>by rw[<- bit_pow.1 hk];exact this.2))
theorem level_sub {s:StrN} (hs:strB s=true) {g:Nat}:∀ {n:Nat} {l:List Nat} {r:Nat},(l,r) ∈ levelL s g n->Sub r (endR s g 1)
 | 0,l,r,h=>by
  unfold levelL at h
  rw[List.mem_singleton]at h
  injection h with h1 h2
  subst h2
  exact end_more 64 1
 | n+1,l,r,h=>by
  unfold levelL at h
  rw[List.mem_flatMap]at h
  obtain⟨⟨l',r'⟩,hm,hst⟩:=h
  obtain⟨i,gt,hg,hb,he⟩:=mem_stepsL.1 hst
  injection he with h1 h2
  subst h1 h2
  exact step_sub (endR_closed hs g) (level_sub hs hm) (List.mem_of_getElem? hg) hb
theorem end_level {s:StrN} {g:Nat}:∀ (m:Nat) {n:Nat} {l:List Nat} {r:Nat},(l,r) ∈ levelL s g n->∃ n' l',(l',endF s g m r) ∈ levelL s g n'
 | 0,n,l,r,h=>⟨n,l,h⟩
 | m + 1,n,l,r,h=>by
  rw[endF]
  cases ho:firstG s g r s.gates 0 with
  | none=>exact⟨n,l,h⟩
  | some p =>
   obtain⟨i,gt⟩:=p
   obtain⟨hm,hst⟩:=firstG_is ho
   obtain⟨j,hj,rfl⟩:=List.getElem_of_mem hm
   refine end_level m (n:=n+1) (l:=l++[j]) ?_
   show _ ∈ (levelL s g n).flatMap (stepsL s g)
   exact List.mem_flatMap.2 ⟨_,h,mem_stepsL.2 ⟨j,_,List.getElem?_eq_getElem hj,hst,rfl⟩⟩
theorem wayTo_is {s:StrN} {g room:Nat} {q:List Nat × Nat}:∀ {N:Nat},wayTo s g room N=some q->∃ n,n < N/\(levelL s g n).find? (fun p=>p.2.testBit room)=some q/\∀ m,m < n->∀ p ∈ levelL s g m,p.2.testBit room=false
 | 0,h=>by cases h
 | N + 1,h=>by
  cases hN:wayTo s g room N with
  | some q' =>
   rw[wayTo,hN]at h
   injection h with h
   subst h
   obtain⟨n,h1,h2⟩:=wayTo_is hN
   exact⟨n,by omega,h2⟩
  | none =>
   rw[wayTo_next s g room N hN]at h
   unfold seekW at h
   rw[<- level_under]at h
   exact⟨N,by omega,h,wayTo_no hN⟩
where
 wayTo_no {s:StrN} {g room:Nat}:∀ {N:Nat},wayTo s g room N=none->∀ m,m < N->∀ p ∈ levelL s g m,p.2.testBit room=false
 | 0,_,m,hm=>by omega
 | N + 1,h,m,hm=>by
  cases hN:wayTo s g room N with
  | some q'=>rw[wayTo,hN]at h;cases h
  | none =>
   by_cases e:m=N
   . subst e
     rw[wayTo_next s g room m hN]at h
     unfold seekW at h
     rw[<- level_under,List.find?_eq_none]at h
     exact fun p hp=>Bool.eq_false_iff.2 (h p hp)
   . exact wayTo_no hN m (by omega)
theorem short_bit {s:StrN} (hs:strB s=true) (g room:Nat):(wayTo s g room s.rooms.length).isSome=(endR s g 1).testBit room:=by
 rw[Bool.eq_iff_iff]
 constructor
 . intro h
   obtain⟨q,hq⟩:=Option.isSome_iff_exists.1 h
   obtain⟨n,_,h2,_⟩:=wayTo_is hq
   have hm:(q.1,q.2) ∈ levelL s g n:=List.mem_of_find?_eq_some h2
   exact level_sub hs hm room (List.find?_some (p:=fun p:List Nat × Nat=>p.2.testBit room) h2)
 · intro h
   cases hq:wayTo s g room s.rooms.length with
   | some q=>rfl
   | none =>
    obtain⟨n',l',hm⟩:=end_level (s:=s) (g:=g) 64 (n:=0) (l:=[]) (r:=1) (by unfold levelL;exact List.mem_singleton.2 rfl)
    rcases Nat.lt_or_ge n' s.rooms.length with z|z
    . have:=wayTo_is.wayTo_no hq n' z _ hm
      have h':(endF s g 64 1).testBit room=true:=h
      rw[h']at this
      cases this
    . rw[level_none hs z]at hm
      cases hm
theorem level_sorted (s:StrN) (g:Nat):∀ n,(levelL s g n).Pairwise fun a b=>aheadB (natsL a.1) (natsL b.1)=true
 | 0=>by unfold levelL;exact List.pairwise_singleton _ _
 | n + 1=>by
  unfold levelL
  rw[List.pairwise_flatMap]
  refine⟨fun p _=>?_,?_⟩
  . unfold stepsL
    rw[List.pairwise_filterMap]
    refine List.pairwise_lt_range.imp fun {i j} hij=>?_
    intro b hb b' hb'
    split at hb
    case h_2=>cases hb
    split at hb
    case isFalse=>cases hb
    injection hb with hb
    split at hb'
    case h_2=>cases hb'
    split at hb'
    case isFalse=>cases hb'
    injection hb' with hb'
    subst hb hb'
    show aheadB (natsL (p.1++[i])) (natsL (p.1++[j]))=true
    rw[nats_snoc,nats_snoc]
    exact aheadB_snoc _ (by omega)
  . have hl:∀ p ∈ levelL s g n,p.1.length=n:=fun p hp=>(level_road (l:=p.1) (r:=p.2).1 hp).1
    refine List.Pairwise.imp_of_mem ?_ (level_sorted s g n)
    intro a b ha hb hab x hx y hy
    obtain⟨i,gt,_,_,rfl⟩:=mem_stepsL.1 hx
    obtain⟨j,gt',_,_,rfl⟩:=mem_stepsL.1 hy
    show aheadB (natsL (a.1++[i])) (natsL (b.1++[j]))=true
    rw[nats_snoc,nats_snoc]
    exact aheadB_app _ _ (by rw[nats_len,nats_len,hl a ha,hl b hb]) hab
theorem short_min {s:StrN} {g room n:Nat} {q:List Nat × Nat} {L:List Nat} {r:Nat} (hq:wayTo s g room s.rooms.length=some q) (hL:(L,r) ∈ levelL s g n) (hb:r.testBit room=true):q.1.length < n \/ (q.1.length=n/\aheadB (natsL L) (natsL q.1)=false):=by
 obtain⟨n0,_,h2,h3⟩:=wayTo_is hq
 have hm:(q.1,q.2) ∈ levelL s g n0:=List.mem_of_find?_eq_some h2
 have hl0:=(level_road.1 hm).1
 have hl:=(level_road.1 hL).1
 rcases Nat.lt_trichotomy n0 n with z|z|z
 . exact .inl (by omega)
 · subst z
   refine .inr ⟨hl0,?_⟩
   obtain⟨xs,ys,e,hno⟩:=(List.find?_eq_some_iff_append.1 h2).2
   have hs':=level_sorted s g n0
   rw[e]at hs' hL
   rw[List.pairwise_append]at hs'
   rcases List.mem_append.1 hL with h|h
   . have:=hno _ h
     simp only[hb,Bool.not_true]at this
     cases this
   · rcases List.mem_cons.1 h with h|h
     . rw[<- h];exact aheadB_refl _
     . have:=(List.pairwise_cons.1 hs'.2.1).1 _ h
       exact aheadB_asymm (by rw[nats_len,nats_len,hl,hl0]) this
 . have:=h3 n z _ hL
   rw[hb]at this
   cases this
theorem road_nats {s:StrN} {g:Nat}:∀ {L:List Int} {r0 r:Nat},roadN s g L r0=some r->∃ L',L=natsL L'
 | [],_,_,_=>⟨[],rfl⟩
 | x :: L,r0,r,h=>by
  rw[roadN]at h
  cases hg:stepG s g r0 x with
  | none=>rw[hg]at h;cases h
  | some gt =>
   rw[hg]at h
   obtain⟨L',rfl⟩:=road_nats h
   have h0:0≤x:=by
    unfold stepG at hg
    split at hg
    . assumption
    . cases hg
   exact⟨x.toNat :: L',by unfold natsL;rw[List.map_cons];congr 1;omega⟩
theorem road_level {s:StrN} {g:Nat} {L:List Int} {r:Nat} (h:roadN s g L 1=some r):∃ L',L=natsL L'/\(L',r) ∈ levelL s g L.length:=by
 obtain⟨L',rfl⟩:=road_nats h
 exact⟨L',rfl,level_road.2 ⟨by rw[nats_len],h⟩⟩
section
variable {s:StrN} {g:Nat} (h:askN s (g:Int)=0) (hs:strB s=true)
include h
theorem ope_cases (L:List Int):(∃ r,roadN s g L 1=some r/\opeE s (g:Int) L=0/\opeN s (g:Int) L=r) \/ (opeE s (g:Int) L=42/\opeN s (g:Int) L=0):=by
 have e:((g:Int)).toNat=g:=rfl
 unfold opeE opeN
 rw[if_pos h,if_pos h,e]
 cases hr:roadN s g L 1 with
 | some r=>exact .inl ⟨r,rfl,rfl,rfl⟩
 | none=>exact .inr ⟨rfl,rfl⟩
theorem way_cases (room:Int):(wayE s (g:Int) room=7/\wayL s (g:Int) room=[]) \/ (∃ k:Nat,room=(k:Int)/\k < s.rooms.length/\((wayE s (g:Int) room=4/\wayTo s g k s.rooms.length=none) \/ ∃ q,wayE s (g:Int) room=0/\wayTo s g k s.rooms.length=some q/\wayL s (g:Int) room=q.1)):=by
 cases hin:inR 0 room ((s.rooms.length:Int) - 1) with
 | false=>exact .inl (way_off h hin)
 | true =>
  have:=(inR_iff _ _ _).1 hin
  obtain⟨k,rfl⟩:∃ k:Nat,room=(k:Int):=⟨room.toNat,by omega⟩
  refine .inr ⟨k,rfl,by omega,?_⟩
  have ho:wayO s (g:Int) (k:Int)=wayTo s g k s.rooms.length:=rfl
  cases hq:wayTo s g k s.rooms.length with
  | none=>rw[hq]at ho;exact .inl ⟨(way_none h hin ho).1,rfl⟩
  | some q=>rw[hq]at ho;obtain⟨e1,e2⟩:=way_some h hin ho;exact .inr ⟨q,e1,rfl,e2⟩
end
end Go.Proofs

namespace Go.Proofs
open Go Go.RowKit Go.Sim
set_option maxRecDepth 100000
def Tryz.s9_c84:SC:=(.seq (.ops false [zo 84 (.load 26 (zv 2)) 26,zo 85 (.fieldAddr 36 (zv 3) 0) 0,zo 86 (.load 3 (zv 85)) 3,zo 87 (.fieldAddr 36 (zv 3) 2) 0,zo 88 (.load 24 (zv 87)) 24,zo 89 (.call ⟨.value (.func 25),⟨[(zv 84),(zv 86),(zv 88)]⟩,⟨[26,3,24]⟩⟩) 28,zo 83 (.move (zv 89)) 28,zo 90 (.extract (zv 83) 0) 3,zo 91 (.extract (zv 83) 1) 27,zo 11 (.assign (zv 90)) 3,zo 12 (.assign (zv 91)) 27]) (.seq (.seq (.ops false [zo 92 (.move (zv 12)) 27,zo 93 (.binOp .neq 27 (zv 92) (zk 0) 27) 4]) (.cond (.tmp 93) (.seq (.ops false [zo 94 (.move (zv 12)) 27,zo 95 (.binOp .eql 27 (zv 94) (zk 42) 27) 4,zo 96 (.move (zv 95)) 4,zg 97 (.move (zv 11)) 3 96 true,zg 98 (.binOp .eql 3 (zv 97) (zk 0) 3) 4 96 true,zo 99 (.pick (zv 96) (zv 98) (.const (.bool false))) 4,zo 100 (.move (zv 99)) 4,zg 101 (.call ⟨.value (.func 21),⟨[]⟩,⟨[]⟩⟩) 4 100 true,zo 102 (.pick (zv 100) (zv 101) (.const (.bool false))) 4,zo 4 (.assign (zv 102)) 4]) .ret) .skip)) (.seq (.seq (.ops false [zo 103 (.move (zv 11)) 3,zo 104 (.move (zv 7)) 3,zo 105 (.call ⟨.value (.func 37),⟨[(zv 103),(zv 104)]⟩,⟨[3,3]⟩⟩) 4,zo 106 (.unOp .not 4 (zv 105)) 4]) (.cond (.tmp 106) (.seq (.ops false [zo 4 (.assign (.const (.bool false))) 4]) .ret) .skip)) (.seq (.ops false [zo 107 (.move (zv 11)) 3,zo 108 (.fieldAddr 36 (zv 3) 1) 0,zo 109 (.load 3 (zv 108)) 3,zo 110 (.call ⟨.value (.func 40),⟨[(zv 107),(zv 109)]⟩,⟨[3,3]⟩⟩) 4,zo 111 (.unOp .not 4 (zv 110)) 4,zo 112 (.move (zv 111)) 4,zg 113 (.move (zv 6)) 27 112 false,zg 114 (.binOp .eql 27 (zv 113) (zk 0) 27) 4 112 false,zg 115 (.move (zv 114)) 4 112 false,zg 116 (.move (zv 5)) 24 115 true,zg 117 (.call ⟨.builtin .len,⟨[(zv 116)]⟩,⟨[24]⟩⟩) 3 115 true,zg 118 (.fieldAddr 36 (zv 3) 2) 0 115 true,zg 119 (.load 24 (zv 118)) 24 115 true,zg 120 (.call ⟨.builtin .len,⟨[(zv 119)]⟩,⟨[24]⟩⟩) 3 115 true,zg 121 (.binOp .lss 3 (zv 117) (zv 120) 3) 4 115 true,zg 122 (.move (zv 121)) 4 115 true,zg 123 (.move (zv 5)) 24 122 false,zg 124 (.call ⟨.builtin .len,⟨[(zv 123)]⟩,⟨[24]⟩⟩) 3 122 false,zg 125 (.fieldAddr 36 (zv 3) 2) 0 122 false,zg 126 (.load 24 (zv 125)) 24 122 false,zg 127 (.call ⟨.builtin .len,⟨[(zv 126)]⟩,⟨[24]⟩⟩) 3 122 false,zg 128 (.binOp .eql 3 (zv 124) (zv 127) 3) 4 122 false,zg 129 (.move (zv 128)) 4 122 false,zg 130 (.fieldAddr 36 (zv 3) 2) 0 129 true,zg 131 (.load 24 (zv 130)) 24 129 true,zg 132 (.move (zv 5)) 24 129 true,zg 133 (.call ⟨.value (.func 41),⟨[(zv 131),(zv 132)]⟩,⟨[24,24]⟩⟩) 4 129 true,zg 134 (.unOp .not 4 (zv 133)) 4 129 true,zg 135 (.pick (zv 129) (zv 134) (.const (.bool false))) 4 122 false,zg 136 (.pick (zv 122) (.const (.bool true)) (zv 135)) 4 115 true,zg 137 (.pick (zv 115) (zv 136) (.const (.bool false))) 4 112 false,zo 138 (.pick (zv 112) (.const (.bool true)) (zv 137)) 4,zo 139 (.move (zv 138)) 4,zg 140 (.call ⟨.value (.func 21),⟨[]⟩,⟨[]⟩⟩) 4 139 true,zo 141 (.pick (zv 139) (zv 140) (.const (.bool false))) 4,zo 4 (.assign (zv 141)) 4]) .ret))))
def Tryz.s9x:SC:=(.seq (.ops false [zo 2 (.box 26 (zv 0)) 0,zo 3 (.box 36 (zv 1)) 0,zo 4 (.assign (.const (.bool false))) 4]) (.seq (.ops false [zo 14 (.load 26 (zv 2)) 26,zo 15 (.fieldAddr 36 (zv 3) 0) 0,zo 16 (.load 3 (zv 15)) 3,zo 17 (.fieldAddr 36 (zv 3) 1) 0,zo 18 (.load 3 (zv 17)) 3,zo 19 (.call ⟨.value (.func 22),⟨[(zv 14),(zv 16),(zv 18)]⟩,⟨[26,3,3]⟩⟩) 37,zo 13 (.move (zv 19)) 37,zo 20 (.extract (zv 13) 0) 24,zo 21 (.extract (zv 13) 1) 27,zo 5 (.assign (zv 20)) 24,zo 6 (.assign (zv 21)) 27]) (.seq (.ops false [zo 23 (.load 26 (zv 2)) 26,zo 24 (.fieldAddr 36 (zv 3) 0) 0,zo 25 (.load 3 (zv 24)) 3,zo 26 (.call ⟨.value (.func 15),⟨[(zv 23),(zv 25)]⟩,⟨[26,3]⟩⟩) 28,zo 22 (.move (zv 26)) 28,zo 27 (.extract (zv 22) 0) 3,zo 28 (.extract (zv 22) 1) 27,zo 7 (.assign (zv 27)) 3,zo 8 (.assign (zv 28)) 27]) (.seq (.seq (.ops false [zo 29 (.move (zv 8)) 27,zo 30 (.binOp .neq 27 (zv 29) (zk 0) 27) 4,zo 31 (.move (zv 30)) 4,zg 32 (.move (zv 6)) 27 31 false,zg 33 (.binOp .neq 27 (zv 32) (zk 0) 27) 4 31 false,zg 34 (.move (zv 33)) 4 31 false,zg 35 (.move (zv 6)) 27 34 true,zg 36 (.binOp .neq 27 (zv 35) (zk 4) 27) 4 34 true,zg 37 (.pick (zv 34) (zv 36) (.const (.bool false))) 4 31 false,zo 38 (.pick (zv 31) (.const (.bool true)) (zv 37)) 4]) (.cond (.tmp 38) (.seq (.ops false [zo 39 (.move (zv 5)) 24,zo 40 (.call ⟨.builtin .len,⟨[(zv 39)]⟩,⟨[24]⟩⟩) 3,zo 41 (.binOp .eql 3 (zv 40) (zk 0) 3) 4,zo 42 (.move (zv 41)) 4,zg 43 (.call ⟨.value (.func 21),⟨[]⟩,⟨[]⟩⟩) 4 42 true,zo 44 (.pick (zv 42) (zv 43) (.const (.bool false))) 4,zo 4 (.assign (zv 44)) 4]) .ret) .skip)) (.seq (.seq (.ops false [zo 45 (.fieldAddr 36 (zv 3) 1) 0,zo 46 (.load 3 (zv 45)) 3,zo 47 (.call ⟨.value (.func 39),⟨[(zk 0),(zv 46),(zk 5)]⟩,⟨[3,3,3]⟩⟩) 4,zo 48 (.unOp .not 4 (zv 47)) 4,zo 49 (.move (zv 48)) 4,zg 50 (.move (zv 6)) 27 49 false,zg 51 (.binOp .eql 27 (zv 50) (zk 0) 27) 4 49 false,zg 52 (.move (zv 7)) 3 49 false,zg 53 (.fieldAddr 36 (zv 3) 1) 0 49 false,zg 54 (.load 3 (zv 53)) 3 49 false,zg 55 (.call ⟨.value (.func 40),⟨[(zv 52),(zv 54)]⟩,⟨[3,3]⟩⟩) 4 49 false,zg 56 (.binOp .neq 4 (zv 51) (zv 55) 4) 4 49 false,zo 57 (.pick (zv 49) (.const (.bool true)) (zv 56)) 4]) (.cond (.tmp 57) (.seq (.ops false [zo 4 (.assign (.const (.bool false))) 4]) .ret) .skip)) (.seq (.seq (.ops false [zo 58 (.move (zv 6)) 27,zo 59 (.binOp .eql 27 (zv 58) (zk 0) 27) 4]) (.cond (.tmp 59) (.seq (.ops false [zo 61 (.load 26 (zv 2)) 26,zo 62 (.fieldAddr 36 (zv 3) 0) 0,zo 63 (.load 3 (zv 62)) 3,zo 64 (.move (zv 5)) 24,zo 65 (.call ⟨.value (.func 25),⟨[(zv 61),(zv 63),(zv 64)]⟩,⟨[26,3,24]⟩⟩) 28,zo 60 (.move (zv 65)) 28,zo 66 (.extract (zv 60) 0) 3,zo 67 (.extract (zv 60) 1) 27,zo 9 (.assign (zv 66)) 3,zo 10 (.assign (zv 67)) 27]) (.seq (.ops false [zo 68 (.move (zv 10)) 27,zo 69 (.binOp .neq 27 (zv 68) (zk 0) 27) 4,zo 70 (.move (zv 69)) 4,zg 71 (.move (zv 9)) 3 70 false,zg 72 (.fieldAddr 36 (zv 3) 1) 0 70 false,zg 73 (.load 3 (zv 72)) 3 70 false,zg 74 (.call ⟨.value (.func 40),⟨[(zv 71),(zv 73)]⟩,⟨[3,3]⟩⟩) 4 70 false,zg 75 (.unOp .not 4 (zv 74)) 4 70 false,zo 76 (.pick (zv 70) (.const (.bool true)) (zv 75)) 4,zo 77 (.move (zv 76)) 4,zg 78 (.move (zv 9)) 3 77 false,zg 79 (.move (zv 7)) 3 77 false,zg 80 (.call ⟨.value (.func 37),⟨[(zv 78),(zv 79)]⟩,⟨[3,3]⟩⟩) 4 77 false,zg 81 (.unOp .not 4 (zv 80)) 4 77 false,zo 82 (.pick (zv 77) (.const (.bool true)) (zv 81)) 4]) (.cond (.tmp 82) (.seq (.ops false [zo 4 (.assign (.const (.bool false))) 4]) .ret) .skip))) .skip)) Tryz.s9_c84))))))
theorem Tryz.s9x_eq:Tryz.f9.body.map sOf=some Tryz.s9x:=by kernel_rfl
set_option maxHeartbeats 4000000 in
theorem Ahead_ok (a b:List Int) (u v:Value) (w:AW) (hu:ArrOf w 1 icells u a) (hv:ArrOf w 1 icells v b):CallT Tryz.prog Tryz.T1 (.fn (.func 41) #[]) #[u,v] w (Ret (.bool (aheadB a b)) fun w'=>w=w'):=by
 obtain⟨p,c,rfl,_,_,hat⟩:=hu.open
 obtain⟨q,d,rfl,_,_,hat2⟩:=hv.open
 refine callT_code rfl Tryz.func41 rfl Tryz.s41_eq rfl ?_
 delta Tryz.s41 zo zt zg zv zk
 simp -dsimp -implicitDefEqProofs (maxSteps:=2000000) (disch:=first|assumption|omega|simp only[nx];omega|(repeat apply zfp);assumption|simp only[smA];done|simp[oneCell,znp]) only[go_sem]
 refine loopR (fun k t ds w1=>∃ i:Nat,i≤min a.length b.length/\k=min a.length b.length - i/\ds=[]/\ev t (.tmp 0)=.slice p a.length c/\ev t (.tmp 1)=.slice q b.length d/\ev t (.tmp 5)=.int .i64 (i:Int)/\w=w1/\a.take i=b.take i) (min a.length b.length) ?_ ?_
 . refine⟨0,by omega,by omega,rfl,?_,?_,?_,rfl,rfl⟩ <;> simp -dsimp -implicitDefEqProofs (maxSteps:=2000000) (disch:=first|assumption|omega|simp only[nx];omega|(repeat apply zfp);assumption|simp only[smA];done|simp[oneCell,znp]) only[go_sem] <;> rfl
 rintro k t ds w1 ⟨i,hii,rfl,rfl,e0,e1,e5,hw,hp⟩
 subst hw
 have hpre:=aheadB_pre i a b (by omega) (by omega) hp
 by_cases hlt:i < min a.length b.length
 case neg =>
  have hE:aheadB a b=decide ((a.length:Int) < (b.length:Int)):=by
   rw[hpre,aheadB_end (by rcases Nat.le_total a.length b.length with z|z;exact .inl (List.drop_of_length_le (by omega));exact .inr (List.drop_of_length_le (by omega)))]
   simp only[List.length_drop]
   exact decide_eq_decide.2 (by omega)
  by_cases h1:(i:Int) < (a.length:Int)
  . have h2:¬ (i:Int) < (b.length:Int):=by omega
    simp -dsimp -implicitDefEqProofs (maxSteps:=2000000) (disch:=first|assumption|omega|simp only[nx];omega|(repeat apply zfp);assumption|simp only[smA];done|simp[oneCell,znp]) only[go_sem,e0,e1,e5,h1,h2]
    exact⟨by rw[hE],rfl⟩
  . simp -dsimp -implicitDefEqProofs (maxSteps:=2000000) (disch:=first|assumption|omega|simp only[nx];omega|(repeat apply zfp);assumption|simp only[smA];done|simp[oneCell,znp]) only[go_sem,e0,e1,e5,h1]
    exact⟨by rw[hE],rfl⟩
 have h1:(i:Int) < (a.length:Int):=by omega
 have h2:(i:Int) < (b.length:Int):=by omega
 have h1':i < a.length:=by omega
 have h2':i < b.length:=by omega
 obtain⟨b1,o1,rfl,hb1,hcell⟩:=hat i h1'
 obtain⟨b2,o2,rfl,hb2,hcell2⟩:=hat2 i h2'
 have a0:=hcell w (.refl _ _) 0 _ rfl
 have a1:=hcell2 w (.refl _ _) 0 _ rfl
 rw[Nat.add_zero]at a0 a1
 rw[List.drop_eq_getElem_cons h1',List.drop_eq_getElem_cons h2']at hpre
 by_cases hx:a[i]=b[i]
 . have hd:decide (a[i]=b[i])=true:=decide_eq_true hx
   simp -dsimp -implicitDefEqProofs (maxSteps:=2000000) (disch:=first|assumption|omega|simp only[nx];omega|(repeat apply zfp);assumption|simp only[smA];done|simp[oneCell,znp]) only[go_sem,e0,e1,e5,h1,h2,indexV_eq,a0,a1,hd]
   refine⟨_,by omega,i+1,by omega,rfl,rfl,by(simp only[go_sem,e0];try rfl),by(simp only[go_sem,e1];try rfl),by(simp only[go_sem,e5];try rfl),rfl,(by rw[List.take_succ_eq_append_getElem h1',List.take_succ_eq_append_getElem h2',hp,hx])⟩
 . have hd:decide (a[i]=b[i])=false:=decide_eq_false hx
   rw[aheadB,if_neg hx]at hpre
   simp -dsimp -implicitDefEqProofs (maxSteps:=2000000) (disch:=first|assumption|omega|simp only[nx];omega|(repeat apply zfp);assumption|simp only[smA];done|simp[oneCell,znp]) only[go_sem,e0,e1,e5,h1,h2,indexV_eq,a0,a1,hd]
   exact⟨by rw[hpre],rfl⟩
theorem len_row {w:AW} {p:Option Addr} {n c:Nat} {L:List Int} (h:ArrOf w 1 icells (.slice p n c) L):n=L.length:=by
 obtain⟨_,_,ex,_⟩:=h.open
 injection ex
set_option maxHeartbeats 32000000 in
theorem rest9_ok {s:StrN} (hs:strB s=true) {pR pG pS:Option Addr} {cR cG cS:Nat} {g rm:Nat} (h:askN s (g:Int)=0) (hrm:rm < s.rooms.length) {E:Int} (hcase:(E=4/\(endR s g 1).testBit rm=false) \/ (E=0/\∃ q,wayTo s g rm s.rooms.length=some q/\wayL s (g:Int) (rm:Int)=q.1))
    {b1 b2 cL ca:Nat} {pL pa:Option Addr} {L:List Int} (t:Tmps) (e2:ev t (.tmp 2)=.pointer (some ⟨b1,0,none⟩)) (e3:ev t (.tmp 3)=.pointer (some ⟨b2,0,none⟩)) (e5:ev t (.tmp 5)=.slice pa (natsL (wayL s (g:Int) (rm:Int))).length ca) (e6:ev t (.tmp 6)=.int .i64 E) (e7:ev t (.tmp 7)=.int .i64 (endR s g 1:Int))
    (w:AW) (f:Fresh w) (hA:StrAt w pR pG pS cR cG cS s) (hL:ArrOf w 1 icells (.slice pL L.length cL) L) (hx:ArrOf w 1 icells (.slice pa (natsL (wayL s (g:Int) (rm:Int))).length ca) (natsL (wayL s (g:Int) (rm:Int)))) (O:Own w b1 26 (strC pR pG pS cR cG cS s)) (P:Own w b2 36 [.int .i64 (g:Int),.int .i64 (rm:Int),.slice pL L.length cL]) :
    CodeR Tryz.prog Tryz.T1 {fn:=9,round:=none} Tryz.s9_c84 t [] w (fun e t ds w'=>Sim.Left (P:=Tryz.prog) Tryz.f9.results.toList e t ds w' (fun v _=>v=.bool true)) .mk:=by
 have hrl:=(str_rooms hs).2
 have he64:=(endR_in hs g).1
 have h420:¬ (42:Int)=0:=by omega
 have h40:¬ (4:Int)=0:=by omega
 have lW:=loadAll O (n:=3) rfl (by simp[strC,oneCell])
 have x0:=P.cell (o:=0) (v:=.int .i64 (g:Int)) rfl rfl
 have x2:=P.cell (o:=2) (v:=.slice pL L.length cL) rfl rfl
 have hO:=OpensV_ok s pR pG pS cR cG cS (g:Int) L (.slice pL L.length cL) w f hA hL
 delta Tryz.s9_c84 zo zg zv zk
 unfold strC at *
 simp -dsimp -implicitDefEqProofs (maxSteps:=2000000) (disch:=first|assumption|omega|simp only[nx];omega|(repeat apply zfp);assumption|simp only[smA];done|simp[oneCell,znp]) only[go_sem,e2,e3,e5,e6,e7,lW,x0,x2,Nat.zero_add]
 apply callV_of (e:=rfl)
 . exact hO
 rintro _ wz ⟨rfl,gz⟩
 have PZ:=P.keep gz.1
 have z1:=PZ.cell (o:=1) (v:=.int .i64 (rm:Int)) rfl rfl
 have z2:=PZ.cell (o:=2) (v:=.slice pL L.length cL) rfl rfl
 rcases ope_cases h L with ⟨r,hrd,o1,o2⟩|⟨o1,o2⟩
 rotate_left
 . rw[o1,o2]
   have d00:decide (((0:Nat):Int)=0)=true:=rfl
   simp -dsimp -implicitDefEqProofs (maxSteps:=2000000) (disch:=first|assumption|omega|simp only[nx];omega|(repeat apply zfp);assumption|simp only[smA];done|simp[oneCell,znp]) only[go_sem,e2,e3,e5,e6,e7,h420,d00]
   apply callV_of (e:=rfl)
   . exact callT_told (Q:=fun v w'=>v=.bool true/\wz=w') (v:=.bool true) (w':=wz) rfl ⟨rfl,rfl⟩
   rintro _ _ ⟨rfl,rfl⟩
   simp -dsimp -implicitDefEqProofs (maxSteps:=2000000) (disch:=first|assumption|omega|simp only[nx];omega|(repeat apply zfp);assumption|simp only[smA];done|simp[oneCell,znp]) only[go_sem]
 rw[o1,o2]
 obtain⟨L',hLL,hlv⟩:=road_level hrd
 have hsub:=subB_iff.2 (level_sub hs hlv)
 have hr64:=(level_size hs hlv).2.1
 simp -dsimp -implicitDefEqProofs (maxSteps:=2000000) (disch:=first|assumption|omega|simp only[nx];omega|(repeat apply zfp);assumption|simp only[smA];done|simp[oneCell,znp]) only[go_sem,e2,e3,e5,e6,e7]
 apply callV_of (e:=rfl)
 . exact in_ok r (endR s g 1) (by omega) (by omega) wz
 rintro _ _ ⟨rfl,rfl⟩
 simp -dsimp -implicitDefEqProofs (maxSteps:=2000000) (disch:=first|assumption|omega|simp only[nx];omega|(repeat apply zfp);assumption|simp only[smA];done|simp[oneCell,znp]) only[go_sem,e2,e3,e5,e6,e7,hsub,z1,Nat.zero_add]
 apply callV_of (e:=rfl)
 . exact Bit_ok r rm (by omega) (by omega) wz
 rintro _ _ ⟨rfl,rfl⟩
 cases hbr:r.testBit rm with
 | false =>
  simp -dsimp -implicitDefEqProofs (maxSteps:=2000000) (disch:=first|assumption|omega|simp only[nx];omega|(repeat apply zfp);assumption|simp only[smA];done|simp[oneCell,znp]) only[go_sem,hbr]
  apply callV_of (e:=rfl)
  . exact callT_told (Q:=fun v w'=>v=.bool true/\wz=w') (v:=.bool true) (w':=wz) rfl ⟨rfl,rfl⟩
  rintro _ _ ⟨rfl,rfl⟩
  simp -dsimp -implicitDefEqProofs (maxSteps:=2000000) (disch:=first|assumption|omega|simp only[nx];omega|(repeat apply zfp);assumption|simp only[smA];done|simp[oneCell,znp]) only[go_sem]
 | true =>
  rcases hcase with ⟨_,hbf⟩|⟨rfl,q,hsome,e2'⟩
  . have:=level_sub hs hlv rm hbr
    rw[hbf]at this
    cases this
  have hmin:=short_min hsome hlv hbr
  rw[<- e2']at hmin
  have hlq:(natsL (wayL s (g:Int) (rm:Int))).length=(wayL s (g:Int) (rm:Int)).length:=nats_len _
  have h00:decide ((0:Int)=0)=true:=rfl
  by_cases hlt:((natsL (wayL s (g:Int) (rm:Int))).length:Int) < (L.length:Int)
  . simp -dsimp -implicitDefEqProofs (maxSteps:=2000000) (disch:=first|assumption|omega|simp only[nx];omega|(repeat apply zfp);assumption|simp only[smA];done|simp[oneCell,znp]) only[go_sem,e2,e3,e5,e6,e7,hbr,h00,z2,hlt,Nat.zero_add]
    apply callV_of (e:=rfl)
    . exact callT_told (Q:=fun v w'=>v=.bool true/\wz=w') (v:=.bool true) (w':=wz) rfl ⟨rfl,rfl⟩
    rintro _ _ ⟨rfl,rfl⟩
    simp -dsimp -implicitDefEqProofs (maxSteps:=2000000) (disch:=first|assumption|omega|simp only[nx];omega|(repeat apply zfp);assumption|simp only[smA];done|simp[oneCell,znp]) only[go_sem]
  . have hmin2:=hmin.resolve_left (by omega)
    have heq:decide (((natsL (wayL s (g:Int) (rm:Int))).length:Int)=(L.length:Int))=true:=decide_eq_true (by omega)
    simp -dsimp -implicitDefEqProofs (maxSteps:=2000000) (disch:=first|assumption|omega|simp only[nx];omega|(repeat apply zfp);assumption|simp only[smA];done|simp[oneCell,znp]) only[go_sem,e2,e3,e5,e6,e7,hbr,h00,z2,hlt,heq,Nat.zero_add]
    apply callV_of (e:=rfl)
    . exact Ahead_ok L (natsL (wayL s (g:Int) (rm:Int))) _ _ wz (hL.grown gz) (hx.grown gz)
    rintro _ _ ⟨rfl,rfl⟩
    rw[hLL,hmin2.2]
    simp -dsimp -implicitDefEqProofs (maxSteps:=2000000) (disch:=first|assumption|omega|simp only[nx];omega|(repeat apply zfp);assumption|simp only[smA];done|simp[oneCell,znp]) only[go_sem]
    apply callV_of (e:=rfl)
    . exact callT_told (Q:=fun v w'=>v=.bool true/\wz=w') (v:=.bool true) (w':=wz) rfl ⟨rfl,rfl⟩
    rintro _ _ ⟨rfl,rfl⟩
    simp -dsimp -implicitDefEqProofs (maxSteps:=2000000) (disch:=first|assumption|omega|simp only[nx];omega|(repeat apply zfp);assumption|simp only[smA];done|simp[oneCell,znp]) only[go_sem]
set_option maxHeartbeats 64000000 in
theorem shortest_law (w:AW) (xs:List Value) (f:Fresh w) (h:HdAll Tryz.prog w [26,36] xs):CallT Tryz.prog Tryz.T1 (.fn (.func 9) #[]) xs.toArray w fun v _=>v=.bool true:=by
 cases h with
 | cons n1 h1 h =>
 cases h with
 | cons n2 h2 h =>
 cases h
 rename_i v1 v2
 obtain⟨s,pR,pG,pS,cR,cG,cS,rfl,hA⟩:=given_strong h1
 obtain⟨x,room,pL,cL,L,rfl,hL⟩:=given_trip h2
 clear h1 h2
 show CallT Tryz.prog Tryz.T1 (.fn (.func 9) #[]) #[.agg (strC pR pG pS cR cG cS s).toArray,.agg #[.int .i64 x,.int .i64 room,.slice pL L.length cL]] w _
 have g1:=(Grown.refl f).push (.cells (strC pR pG pS cR cG cS s) 26 w.next 0 0)
 have O1:=Own.new f 26 (strC pR pG pS cR cG cS s)
 have g2:=g1.push (.cells [.int .i64 x,.int .i64 room,.slice pL L.length cL] 36 (w.next+1) 0 0)
 have P1:=Own.new g1.2 36 [.int .i64 x,.int .i64 room,.slice pL L.length cL]
 rw[AW.next_push]at P1
 have O2:=O1.push (.cells [.int .i64 x,.int .i64 room,.slice pL L.length cL] 36 (w.next+1) 0 0)
 have hW:=fun w' (g':Grown w w')=>WayV22_ok s pR pG pS cR cG cS x room w' g'.2 (hA.grown g')
 have hE:=fun w' (g':Grown w w')=>EnterV_ok s pR pG pS cR cG cS x w' g'.2 (hA.grown g')
 have hOx:=fun (M:List Int) (u:Value) w' (g':Grown w w') (hM:ArrOf w' 1 icells u M)=>OpensV_ok s pR pG pS cR cG cS x M u w' g'.2 (hA.grown g') hM
 have l2:=loadAll O2 (n:=3) rfl (by simp[strC,oneCell])
 have p0:=P1.cell (o:=0) (v:=.int .i64 x) rfl rfl
 have p1:=P1.cell (o:=1) (v:=.int .i64 room) rfl rfl
 have h40:¬ (4:Int)=0:=by omega
 have h70:¬ (7:Int)=0:=by omega
 have h74:¬ (7:Int)=4:=by omega
 have h420:¬ (42:Int)=0:=by omega
 have d00:decide (((0:Nat):Int)=0)=true:=rfl
 have nb:∀ a b:Bool,eqQ Tryz.prog .neq 4 (.bool a) (.bool b)=some (.bool (a != b)):=fun a b=>by cases a <;> cases b <;> kernel_rfl
 have hbb:∀ a b:Bool,binQ .neq (.bool a) (.bool b)=none:=fun a b=>rfl
 refine callT_code rfl Tryz.func9 rfl Tryz.s9x_eq rfl ?_
 delta Tryz.s9x zo zg zv zk
 unfold strC at *
 simp -dsimp -implicitDefEqProofs (maxSteps:=2000000) (disch:=first|assumption|omega|simp only[nx];omega|(repeat apply zfp);assumption|simp only[smA];done|simp[oneCell,znp]) only[go_sem,l2,p0,p1,Nat.zero_add]
 generalize (w.push (.cells [.slice pR s.rooms.length cR,.slice pG s.gates.length cG,.slice pS s.staff.length cS] 26 w.next 0 0)).push (.cells [.int .i64 x,.int .i64 room,.slice pL L.length cL] 36 (w.next+1) 0 0)=w1 at *
 apply callV_of (e:=rfl)
 . exact hW w1 g2
 rintro _ w2 ⟨g3,pa,na,ca,rfl,hx⟩
 obtain rfl:=len_row hx
 have gg2:=g2.trans g3
 have O3:=O2.keep g3.1
 have P3:=P1.keep g3.1
 have l3:=loadAll O3 (n:=3) rfl (by simp[oneCell])
 have q0:=P3.cell (o:=0) (v:=.int .i64 x) rfl rfl
 simp -dsimp -implicitDefEqProofs (maxSteps:=2000000) (disch:=first|assumption|omega|simp only[nx];omega|(repeat apply zfp);assumption|simp only[smA];done|simp[oneCell,znp]) only[go_sem,l3,q0,Nat.zero_add]
 apply callV_of (e:=rfl)
 . exact hE w2 gg2
 rintro _ w3 ⟨rfl,g4⟩
 have gg3:=gg2.trans g4
 have O4:=O3.keep g4.1
 have P4:=P3.keep g4.1
 have hx3:=hx.grown g4
 by_cases h:askN s x=0
 case neg =>
  obtain⟨e1,e2⟩:=way_bad (room:=room) h
  simp -dsimp -implicitDefEqProofs (maxSteps:=2000000) (disch:=first|assumption|omega|simp only[nx];omega|(repeat apply zfp);assumption|simp only[smA];done|simp[oneCell,znp]) only[go_sem,h,e2,natsL,List.map_nil,List.length_nil,d00]
  apply callV_of (e:=rfl)
  . exact callT_told (Q:=fun v w'=>v=.bool true/\w3=w') (v:=.bool true) (w':=w3) rfl ⟨rfl,rfl⟩
  rintro _ _ ⟨rfl,rfl⟩
  simp -dsimp -implicitDefEqProofs (maxSteps:=2000000) (disch:=first|assumption|omega|simp only[nx];omega|(repeat apply zfp);assumption|simp only[smA];done|simp[oneCell,znp]) only[go_sem]
 obtain⟨hs,g,rfl,hg,_,hgb⟩:=askN_ok h
 have hen:=entN_is h
 have hrl:=(str_rooms hs).2
 have he64:=(endR_in hs g).1
 rw[hen]
 rcases way_cases h room with ⟨e1,e2⟩|⟨rm,rfl,hrm,⟨e1,hnone⟩|⟨q,e1,hsome,e2⟩⟩
 . simp -dsimp -implicitDefEqProofs (maxSteps:=2000000) (disch:=first|assumption|omega|simp only[nx];omega|(repeat apply zfp);assumption|simp only[smA];done|simp[oneCell,znp]) only[go_sem,h,e1,e2,h70,h74,natsL,List.map_nil,List.length_nil,d00]
   apply callV_of (e:=rfl)
   . exact callT_told (Q:=fun v w'=>v=.bool true/\w3=w') (v:=.bool true) (w':=w3) rfl ⟨rfl,rfl⟩
   rintro _ _ ⟨rfl,rfl⟩
   simp -dsimp -implicitDefEqProofs (maxSteps:=2000000) (disch:=first|assumption|omega|simp only[nx];omega|(repeat apply zfp);assumption|simp only[smA];done|simp[oneCell,znp]) only[go_sem]
 . have hbf:(endR s g 1).testBit rm=false:=by rw[<- short_bit hs,hnone];rfl
   have p41:=P4.cell (o:=1) (v:=.int .i64 (rm:Int)) rfl rfl
   have hin:inR 0 (rm:Int) 5=true:=(inR_iff _ _ _).2 (by omega)
   simp -dsimp -implicitDefEqProofs (maxSteps:=2000000) (disch:=first|assumption|omega|simp only[nx];omega|(repeat apply zfp);assumption|simp only[smA];done|simp[oneCell,znp]) only[go_sem,h,e1,h40,p41,Nat.zero_add]
   apply callV_of (e:=rfl)
   . exact From_ok 0 (rm:Int) 5 w3
   rintro _ _ ⟨rfl,rfl⟩
   simp -dsimp -implicitDefEqProofs (maxSteps:=2000000) (disch:=first|assumption|omega|simp only[nx];omega|(repeat apply zfp);assumption|simp only[smA];done|simp[oneCell,znp]) only[go_sem,hin,e1,h40,p41,Nat.zero_add]
   apply callV_of (e:=rfl)
   . exact Bit_ok (endR s g 1) rm (by omega) (by omega) w3
   rintro _ _ ⟨rfl,rfl⟩
   rw[hbf]
   have n1:eqQ Tryz.prog .neq 4 (.bool false) (.bool false)=some (.bool false):=nb false false
   have n2:=hbb false false
   simp -dsimp -implicitDefEqProofs (maxSteps:=2000000) (disch:=first|assumption|omega|simp only[nx];omega|(repeat apply zfp);assumption|simp only[smA];done|simp[oneCell,znp]) only[go_sem,e1,h40,n1,n2]
   exact rest9_ok hs h hrm (.inl ⟨rfl,hbf⟩) _ (by(simp only[go_sem,e1];try rfl)) (by(simp only[go_sem,e1];try rfl)) (by(simp only[go_sem,e1];try rfl)) (by(simp only[go_sem,e1];try rfl)) (by(simp only[go_sem,e1];try rfl)) w3 gg3.2 (hA.grown gg3) (hL.grown gg3) hx3 O4 P4
 · have hbt:(endR s g 1).testBit rm=true:=by rw[<- short_bit hs,hsome];rfl
   have p41:=P4.cell (o:=1) (v:=.int .i64 (rm:Int)) rfl rfl
   have p40:=P4.cell (o:=0) (v:=.int .i64 (g:Int)) rfl rfl
   have l4:=loadAll O4 (n:=3) rfl (by simp[oneCell])
   have hin:inR 0 (rm:Int) 5=true:=(inR_iff _ _ _).2 (by omega)
   have h00:decide ((0:Int)=0)=true:=rfl
   simp -dsimp -implicitDefEqProofs (maxSteps:=2000000) (disch:=first|assumption|omega|simp only[nx];omega|(repeat apply zfp);assumption|simp only[smA];done|simp[oneCell,znp]) only[go_sem,h,e1,p41,Nat.zero_add]
   apply callV_of (e:=rfl)
   . exact From_ok 0 (rm:Int) 5 w3
   rintro _ _ ⟨rfl,rfl⟩
   simp -dsimp -implicitDefEqProofs (maxSteps:=2000000) (disch:=first|assumption|omega|simp only[nx];omega|(repeat apply zfp);assumption|simp only[smA];done|simp[oneCell,znp]) only[go_sem,hin,e1,p41,h00,Nat.zero_add]
   apply callV_of (e:=rfl)
   . exact Bit_ok (endR s g 1) rm (by omega) (by omega) w3
   rintro _ _ ⟨rfl,rfl⟩
   rw[hbt]
   have n1:eqQ Tryz.prog .neq 4 (.bool true) (.bool true)=some (.bool false):=nb true true
   have n2:=hbb true true
   simp -dsimp -implicitDefEqProofs (maxSteps:=2000000) (disch:=first|assumption|omega|simp only[nx];omega|(repeat apply zfp);assumption|simp only[smA];done|simp[oneCell,znp]) only[go_sem,e1,h00,n1,n2,l4,p40,Nat.zero_add]
   apply callV_of (e:=rfl)
   . exact hOx (natsL (wayL s (g:Int) (rm:Int))) _ w3 gg3 hx3
   rintro _ w4 ⟨rfl,g5⟩
   have gg4:=gg3.trans g5
   have O5:=O4.keep g5.1
   have P5:=P4.keep g5.1
   have hx4:=hx3.grown g5
   obtain⟨n0,_,hf,_⟩:=wayTo_is hsome
   have hqm:(q.1,q.2) ∈ levelL s g n0:=List.mem_of_find?_eq_some hf
   have hqb:q.2.testBit rm=true:=List.find?_some (p:=fun p:List Nat × Nat=>p.2.testBit rm) hf
   have hqr:=(level_road.1 hqm).2
   have hq64:=(level_size hs hqm).2.1
   have hqs:=subB_iff.2 (level_sub hs hqm)
   have hoq:opeE s (g:Int) (natsL (wayL s (g:Int) (rm:Int)))=0/\opeN s (g:Int) (natsL (wayL s (g:Int) (rm:Int)))=q.2:=by
    rcases ope_cases h (natsL (wayL s (g:Int) (rm:Int)))with ⟨r,hrd,o1,o2⟩|⟨o1,o2⟩
    . rw[e2,hqr]at hrd
      injection hrd with hrd
      exact⟨o1,by rw[o2,hrd]⟩
    . exfalso
      unfold opeE at o1
      rw[if_pos h,show ((g:Int)).toNat=g from rfl,e2,hqr]at o1
      cases o1
   rw[hoq.1,hoq.2]
   have p51:=P5.cell (o:=1) (v:=.int .i64 (rm:Int)) rfl rfl
   simp -dsimp -implicitDefEqProofs (maxSteps:=2000000) (disch:=first|assumption|omega|simp only[nx];omega|(repeat apply zfp);assumption|simp only[smA];done|simp[oneCell,znp]) only[go_sem,e1,h00,p51,Nat.zero_add]
   apply callV_of (e:=rfl)
   . exact Bit_ok q.2 rm (by omega) (by omega) w4
   rintro _ _ ⟨rfl,rfl⟩
   rw[hqb]
   simp -dsimp -implicitDefEqProofs (maxSteps:=2000000) (disch:=first|assumption|omega|simp only[nx];omega|(repeat apply zfp);assumption|simp only[smA];done|simp[oneCell,znp]) only[go_sem,e1,h00]
   apply callV_of (e:=rfl)
   . exact in_ok q.2 (endR s g 1) (by omega) (by omega) w4
   rintro _ _ ⟨rfl,rfl⟩
   rw[hqs]
   simp -dsimp -implicitDefEqProofs (maxSteps:=2000000) (disch:=first|assumption|omega|simp only[nx];omega|(repeat apply zfp);assumption|simp only[smA];done|simp[oneCell,znp]) only[go_sem,e1,h00]
   exact rest9_ok hs h hrm (.inr ⟨rfl,q,hsome,e2⟩) _ (by(simp only[go_sem,e1];try rfl)) (by(simp only[go_sem,e1];try rfl)) (by(simp only[go_sem,e1];try rfl)) (by(simp only[go_sem,e1];try rfl)) (by(simp only[go_sem,e1];try rfl)) w4 gg4.2 (hA.grown gg4) (hL.grown gg4) hx4 O5 P5
def Tryz.s95:SC:=(.seq (.ops false [zo 4 (.assign (zk 0)) 3]) (.seq (.ops false [zo 5 (.move (zv 0)) 77,zo 6 (.call ⟨.value (.func 98),⟨[(zv 5)]⟩,⟨[77]⟩⟩) 3,zo 7 (.move (zv 1)) 77,zo 8 (.call ⟨.value (.func 98),⟨[(zv 7)]⟩,⟨[77]⟩⟩) 3,zo 9 (.call ⟨.value (.func 97),⟨[(zv 6),(zv 8)]⟩,⟨[3,3]⟩⟩) 3,zo 10 (.move (zv 0)) 77,zo 11 (.move (zv 1)) 77,zo 12 (.call ⟨.value (.func 99),⟨[(zv 10),(zv 11)]⟩,⟨[77,77]⟩⟩) 3,zo 13 (.buildSlice 24 2 ⟨[(0,(zv 9)),(1,(zv 12))]⟩) 24,zo 14 (.call ⟨.value (.func 96),⟨[(zv 13)]⟩,⟨[24]⟩⟩) 3,zo 4 (.assign (zv 14)) 3]) .ret))
def Tryz.s96:SC:=(.seq (.ops false [zo 2 (.assign (zk 0)) 3]) (.seq (.ops false [zo 3 (.assign (zk 0)) 3]) (.seq (.seq (.ops false [zo 6 (.move (zv 0)) 24,zo 7 (.call ⟨.builtin .len,⟨[(zv 6)]⟩,⟨[24]⟩⟩) 3,zo 8 (.move (zk 0)) 3]) (.block 0 (.loop (.seq (.ops false [zo 9 (.binOp .lss 3 (zv 8) (zv 7) 3) 0]) (.seq (.cond (.tmp 9) .skip (.exit 0)) (.seq (.block 1 (.seq (.ops false [zo 10 (.indexAddr 24 (zv 6) (zv 8)) 0,zo 11 (.load 3 (zv 10)) 3,zo 5 (.assign (zv 11)) 3]) (.seq (.ops false [zo 12 (.move (zv 5)) 3,zo 13 (.move (zv 3)) 3,zo 14 (.binOp .neq 3 (zv 12) (zv 13) 3) 4]) (.cond (.tmp 14) (.seq (.ops false [zo 15 (.move (zv 5)) 3,zo 2 (.assign (zv 15)) 3]) .ret) .skip)))) (.ops false [zo 16 (.binOp .add 3 (zv 8) (zk 1) 3) 3,zo 8 (.move (zv 16)) 3]))))))) (.seq (.ops false [zo 17 (.move (zv 3)) 3,zo 2 (.assign (zv 17)) 3]) .ret))))
def Tryz.s97:SC:=(.seq (.ops false [zo 4 (.assign (zk 0)) 3]) (.seq (.ops false [zo 7 (.move (zv 0)) 3,zo 8 (.call ⟨.value (.func 117),⟨[(zv 7)]⟩,⟨[3]⟩⟩) 4,zo 5 (.assign (zv 8)) 4]) (.seq (.ops false [zo 9 (.move (zv 1)) 3,zo 10 (.call ⟨.value (.func 117),⟨[(zv 9)]⟩,⟨[3]⟩⟩) 4,zo 6 (.assign (zv 10)) 4]) (.seq (.seq (.ops false [zo 11 (.move (zv 5)) 4]) (.cond (.tmp 11) (.seq (.seq (.ops false [zo 12 (.move (zv 6)) 4]) (.cond (.tmp 12) (.seq (.ops false [zo 4 (.assign (zk 0)) 3]) .ret) .skip)) (.seq (.ops false [zo 4 (.assign (.const (.int .i64 (-1)))) 3]) .ret)) .skip)) (.seq (.seq (.ops false [zo 13 (.move (zv 6)) 4]) (.cond (.tmp 13) (.seq (.ops false [zo 4 (.assign (zk 1)) 3]) .ret) .skip)) (.seq (.seq (.ops false [zo 14 (.move (zv 0)) 3,zo 15 (.move (zv 1)) 3,zo 16 (.binOp .lss 3 (zv 14) (zv 15) 3) 4]) (.cond (.tmp 16) (.seq (.ops false [zo 4 (.assign (.const (.int .i64 (-1)))) 3]) .ret) .skip)) (.seq (.seq (.ops false [zo 17 (.move (zv 0)) 3,zo 18 (.move (zv 1)) 3,zo 19 (.binOp .gtr 3 (zv 17) (zv 18) 3) 4]) (.cond (.tmp 19) (.seq (.ops false [zo 4 (.assign (zk 1)) 3]) .ret) .skip)) (.seq (.ops false [zo 4 (.assign (zk 0)) 3]) .ret))))))))
def Tryz.s99:SC:=(.seq (.ops false [zo 4 (.assign (zk 0)) 3]) (.seq (.ops false [zo 7 (.move (zv 0)) 77,zo 8 (.call ⟨.value (.func 119),⟨[(zv 7)]⟩,⟨[77]⟩⟩) 4,zo 5 (.assign (zv 8)) 4]) (.seq (.ops false [zo 9 (.move (zv 1)) 77,zo 10 (.call ⟨.value (.func 119),⟨[(zv 9)]⟩,⟨[77]⟩⟩) 4,zo 6 (.assign (zv 10)) 4]) (.seq (.seq (.ops false [zo 11 (.move (zv 5)) 4]) (.cond (.tmp 11) (.seq (.seq (.ops false [zo 12 (.move (zv 6)) 4]) (.cond (.tmp 12) (.seq (.ops false [zo 4 (.assign (zk 0)) 3]) .ret) .skip)) (.seq (.ops false [zo 4 (.assign (.const (.int .i64 (-1)))) 3]) .ret)) .skip)) (.seq (.seq (.ops false [zo 13 (.move (zv 6)) 4]) (.cond (.tmp 13) (.seq (.ops false [zo 4 (.assign (zk 1)) 3]) .ret) .skip)) (.seq (.seq (.ops false [zo 14 (.move (zv 0)) 77,zo 15 (.move (zv 1)) 77,zo 16 (.binOp .lss 77 (zv 14) (zv 15) 77) 4]) (.cond (.tmp 16) (.seq (.ops false [zo 4 (.assign (.const (.int .i64 (-1)))) 3]) .ret) .skip)) (.seq (.seq (.ops false [zo 17 (.move (zv 0)) 77,zo 18 (.move (zv 1)) 77,zo 19 (.binOp .gtr 77 (zv 17) (zv 18) 77) 4]) (.cond (.tmp 19) (.seq (.ops false [zo 4 (.assign (zk 1)) 3]) .ret) .skip)) (.seq (.ops false [zo 4 (.assign (zk 0)) 3]) .ret))))))))
def Tryz.s117:SC:=(.seq (.ops false [zo 2 (.assign (.const (.bool false))) 4]) (.seq (.ops false [zo 3 (.move (zv 0)) 3,zo 4 (.move (zv 0)) 3,zo 5 (.binOp .neq 3 (zv 3) (zv 4) 3) 4,zo 2 (.assign (zv 5)) 4]) .ret))
def Tryz.s119:SC:=(.seq (.ops false [zo 2 (.assign (.const (.bool false))) 4]) (.seq (.ops false [zo 3 (.move (zv 0)) 77,zo 4 (.move (zv 0)) 77,zo 5 (.binOp .neq 77 (zv 3) (zv 4) 77) 4,zo 2 (.assign (zv 5)) 4]) .ret))
theorem Tryz.s95_eq:Tryz.f95.body.map sOf=some Tryz.s95:=by kernel_rfl
theorem Tryz.s96_eq:Tryz.f96.body.map sOf=some Tryz.s96:=by kernel_rfl
theorem Tryz.s97_eq:Tryz.f97.body.map sOf=some Tryz.s97:=by kernel_rfl
theorem Tryz.s99_eq:Tryz.f99.body.map sOf=some Tryz.s99:=by kernel_rfl
theorem Tryz.s117_eq:Tryz.f117.body.map sOf=some Tryz.s117:=by kernel_rfl
theorem Tryz.s119_eq:Tryz.f119.body.map sOf=some Tryz.s119:=by kernel_rfl
end Go.Proofs

namespace Go.Sim
open Go Go.RowKit
theorem calls_flat {P:Program} (hP:Fit P) (hfol:P.follows .mixedOrders=true) {told:ToldF} (ht:∀ N,ToldOk P N told) {f:FuncId} {l:List Value} {v:Value} (hno:told f (l.toArray++#[]) .empty=none) (hl:flat.flats 6 l=true) (hv:flat 6 v=true)
    (h:CallT P told (.fn (.func f) #[]) l.toArray .empty fun u _=>u=v) (W:World):Calls P f l.toArray W fun e W'=>e=.returned v/\BelowD W.heap.size W W':=by
 obtain⟨N,u,w1,hh,rfl⟩:=h
 have h1:=hh N (N+1) (Nat.le_refl _) (by omega)
 have hno':told f l.toArray .empty=none:=by simpa using hno
 simp only[acall,Array.append_empty,hno']at h1
 intro cs
 have ha:ARel (fun _=>none) l.toArray l.toArray:=ARel.iff.2 (by simpa using flats_self (flat_self 6) hl _)
 obtain⟨σ',v',W',fr,s,hf,hlv,e,r⟩:=enter_leaves hP hfol (call_ok hP hfol (ht W.heap.size) N) (call_pan hP hfol (ht W.heap.size) N) h1 cs (WRel.empty W) (args':=l.toArray) ha
 have:=flat_eq 6 u hv σ' v' r
 subst this
 exact⟨.returned v',W',fr,⟨rfl,e.below⟩,s,hf,hlv⟩
theorem grown_of {W W':World} (h:BelowD W.heap.size W W'):∃ q os,W'=Go.Sort.grow (W.drewN q) os:=by
 obtain⟨⟨h1,h2,h3,h4,h5⟩,h6⟩:=h
 refine⟨W'.drawn - W.drawn,W'.heap.extract W.heap.size W'.heap.size,?_⟩
 obtain⟨hp,tp,dr,os,out⟩:=W
 obtain⟨hp',tp',dr',os',out'⟩:=W'
 simp only at *
 subst h1 h2 h3
 have e1:hp'=hp++hp'.extract hp.size hp'.size:=by
  apply Array.ext_getElem?
  intro k
  rw[Array.getElem?_append]
  split
  . rename_i hk
    exact h5 k hk
  · rename_i hk
    rw[Array.getElem?_extract]
    split
    . congr 1;omega
    . rename_i hk2
      rw[Array.getElem?_eq_none (by omega)]
 have e2:dr+(dr' - dr)=dr':=by omega
 simp only[Go.Sort.grow,World.drewN,<- e1,e2]
end Go.Sim

namespace Go.Proofs
open Go Go.RowKit Go.Sim
set_option maxRecDepth 100000
def Tryz.T0c:ToldF:=toldTab Tryz.lenTab (toldTab Tryz.popTab (toldTrue 21 fun _ _ _=>none))
def cmpI (a b:Int):Int:=if a < b then -1 else if b < a then 1 else 0
theorem isNaN_ok (x:Int) (w:AW):CallT Tryz.prog Tryz.T0c (.fn (.func 117) #[]) #[.int .i64 x] w (Ret (.bool false) fun w'=>w=w'):=by
 have d1:decide (x=x)=true:=decide_eq_true rfl
 refine callT_code rfl Tryz.func117 rfl Tryz.s117_eq rfl ?_
 delta Tryz.s117 zo zv
 simp -dsimp -implicitDefEqProofs (maxSteps:=2000000) (disch:=first|assumption|omega|simp only[nx];omega|(repeat apply zfp);assumption|simp only[smA];done|simp[oneCell,znp]) only[go_sem,d1]
 exact⟨rfl,rfl⟩
theorem isNaNP_ok (x:Int) (w:AW):CallT Tryz.prog Tryz.T0c (.fn (.func 119) #[]) #[.int .i64 x] w (Ret (.bool false) fun w'=>w=w'):=by
 have d1:decide (x=x)=true:=decide_eq_true rfl
 refine callT_code rfl Tryz.func119 rfl Tryz.s119_eq rfl ?_
 delta Tryz.s119 zo zv
 simp -dsimp -implicitDefEqProofs (maxSteps:=2000000) (disch:=first|assumption|omega|simp only[nx];omega|(repeat apply zfp);assumption|simp only[smA];done|simp[oneCell,znp]) only[go_sem,d1]
 exact⟨rfl,rfl⟩
theorem compare_ok (a b:Int) (w:AW):CallT Tryz.prog Tryz.T0c (.fn (.func 97) #[]) #[.int .i64 a,.int .i64 b] w (Ret (.int .i64 (cmpI a b)) fun w'=>w=w'):=by
 refine callT_code rfl Tryz.func97 rfl Tryz.s97_eq rfl ?_
 delta Tryz.s97 zo zv zk
 simp -dsimp -implicitDefEqProofs (maxSteps:=2000000) (disch:=first|assumption|omega|simp only[nx];omega|(repeat apply zfp);assumption|simp only[smA];done|simp[oneCell,znp]) only[go_sem]
 apply callV_of (e:=rfl)
 . exact isNaN_ok _ w
 rintro _ _ ⟨rfl,rfl⟩
 simp -dsimp -implicitDefEqProofs (maxSteps:=2000000) (disch:=first|assumption|omega|simp only[nx];omega|(repeat apply zfp);assumption|simp only[smA];done|simp[oneCell,znp]) only[go_sem]
 apply callV_of (e:=rfl)
 . exact isNaN_ok _ w
 rintro _ _ ⟨rfl,rfl⟩
 by_cases h1:a < b
 . simp -dsimp -implicitDefEqProofs (maxSteps:=2000000) (disch:=first|assumption|omega|simp only[nx];omega|(repeat apply zfp);assumption|simp only[smA];done|simp[oneCell,znp]) only[go_sem,h1]
   exact⟨by unfold cmpI;rw[if_pos h1],rfl⟩
 by_cases h2:b < a
 . have h2':a > b:=h2
   simp -dsimp -implicitDefEqProofs (maxSteps:=2000000) (disch:=first|assumption|omega|simp only[nx];omega|(repeat apply zfp);assumption|simp only[smA];done|simp[oneCell,znp]) only[go_sem,h1,h2,h2']
   exact⟨by unfold cmpI;rw[if_neg h1,if_pos h2],rfl⟩
 . have h2':¬ a > b:=h2
   simp -dsimp -implicitDefEqProofs (maxSteps:=2000000) (disch:=first|assumption|omega|simp only[nx];omega|(repeat apply zfp);assumption|simp only[smA];done|simp[oneCell,znp]) only[go_sem,h1,h2,h2']
   exact⟨by unfold cmpI;rw[if_neg h1,if_neg h2],rfl⟩
theorem compareP_ok (a b:Int) (w:AW):CallT Tryz.prog Tryz.T0c (.fn (.func 99) #[]) #[.int .i64 a,.int .i64 b] w (Ret (.int .i64 (cmpI a b)) fun w'=>w=w'):=by
 refine callT_code rfl Tryz.func99 rfl Tryz.s99_eq rfl ?_
 delta Tryz.s99 zo zv zk
 simp -dsimp -implicitDefEqProofs (maxSteps:=2000000) (disch:=first|assumption|omega|simp only[nx];omega|(repeat apply zfp);assumption|simp only[smA];done|simp[oneCell,znp]) only[go_sem]
 apply callV_of (e:=rfl)
 . exact isNaNP_ok _ w
 rintro _ _ ⟨rfl,rfl⟩
 simp -dsimp -implicitDefEqProofs (maxSteps:=2000000) (disch:=first|assumption|omega|simp only[nx];omega|(repeat apply zfp);assumption|simp only[smA];done|simp[oneCell,znp]) only[go_sem]
 apply callV_of (e:=rfl)
 . exact isNaNP_ok _ w
 rintro _ _ ⟨rfl,rfl⟩
 by_cases h1:a < b
 . simp -dsimp -implicitDefEqProofs (maxSteps:=2000000) (disch:=first|assumption|omega|simp only[nx];omega|(repeat apply zfp);assumption|simp only[smA];done|simp[oneCell,znp]) only[go_sem,h1]
   exact⟨by unfold cmpI;rw[if_pos h1],rfl⟩
 by_cases h2:b < a
 . have h2':a > b:=h2
   simp -dsimp -implicitDefEqProofs (maxSteps:=2000000) (disch:=first|assumption|omega|simp only[nx];omega|(repeat apply zfp);assumption|simp only[smA];done|simp[oneCell,znp]) only[go_sem,h1,h2,h2']
   exact⟨by unfold cmpI;rw[if_neg h1,if_pos h2],rfl⟩
 . have h2':¬ a > b:=h2
   simp -dsimp -implicitDefEqProofs (maxSteps:=2000000) (disch:=first|assumption|omega|simp only[nx];omega|(repeat apply zfp);assumption|simp only[smA];done|simp[oneCell,znp]) only[go_sem,h1,h2,h2']
   exact⟨by unfold cmpI;rw[if_neg h1,if_neg h2],rfl⟩
theorem sizeT_ok (x:Nat) (h:x < 64) (w:AW):CallT Tryz.prog Tryz.T0c (.fn (.func 98) #[]) #[.int .i64 (x:Int)] w (Ret (.int .i64 (popN x:Int)) fun w'=>w=w'):=by
 refine callT_told (v:=.int .i64 (popN x:Int)) (w':=w) ?_ ⟨rfl,rfl⟩
 show (match tabArg Tryz.popTab [.int Tryz.popTab.k (x:Int)] with|some x=>some (Tryz.popTab.g x,w)|none=>none)=_
 rw[tabArg_at (s:=Tryz.popTab) (.inl rfl) h]
 rfl
def orI (a b:Int):Int:=if a=0 then b else a
theorem or_ok (a b:Int) (bk:Nat) (w:AW) (h:Own w bk 3 [.int .i64 a,.int .i64 b]):CallT Tryz.prog Tryz.T0c (.fn (.func 96) #[]) #[.slice (some ⟨bk,0,none⟩) 2 2] w (Ret (.int .i64 (orI a b)) fun w'=>w=w'):=by
 have c0:=h.cell (o:=0) rfl rfl
 have c1:=h.cell (o:=1) rfl rfl
 refine callT_code rfl Tryz.func96 rfl Tryz.s96_eq rfl ?_
 delta Tryz.s96 zo zv zk
 simp -dsimp -implicitDefEqProofs (maxSteps:=2000000) (disch:=first|assumption|omega|simp only[nx];omega|(repeat apply zfp);assumption|simp only[smA];done|simp[oneCell,znp]) only[go_sem]
 refine loopR (fun k t ds w1=>∃ i:Nat,i≤2/\k=2 - i/\ds=[]/\ev t (.tmp 3)=.int .i64 0/\ev t (.tmp 6)=.slice (some ⟨bk,0,none⟩) 2 2/\ev t (.tmp 7)=.int .i64 2/\ev t (.tmp 8)=.int .i64 (i:Int)/\(1≤i->a=0)/\(2≤i->b=0)/\w=w1) (2) ?_ ?_
 . refine⟨0,by omega,by omega,rfl,?_,?_,?_,?_,fun h=>by omega,fun h=>by omega,rfl⟩ <;> simp -dsimp -implicitDefEqProofs (maxSteps:=2000000) (disch:=first|assumption|omega|simp only[nx];omega|(repeat apply zfp);assumption|simp only[smA];done|simp[oneCell,znp]) only[go_sem] <;> rfl
 rintro k t ds w1 ⟨i,hii,rfl,rfl,e3,e6,e7,e8,hz,hw⟩
 obtain⟨hz2,rfl⟩:=hw
 rcases Nat.lt_or_ge i 2 with hlt|hge
 case inr =>
  obtain rfl:i=2:=by omega
  have hlI:¬ ((2:Nat):Int) < 2:=by omega
  have ha:=hz (by omega)
  have hb:=hz2 (by omega)
  simp -dsimp -implicitDefEqProofs (maxSteps:=2000000) (disch:=first|assumption|omega|simp only[nx];omega|(repeat apply zfp);assumption|simp only[smA];done|simp[oneCell,znp]) only[go_sem,e3,e6,e7,e8,hlI]
  exact⟨by rw[ha,hb];rfl,rfl⟩
 have hlI:(i:Int) < 2:=by omega
 have hl0:(i:Int) < ((2:Nat):Int):=by omega
 obtain⟨v,hv⟩:∃ v,v=if i=0 then a else b:=⟨_,rfl⟩
 have ci:w.cell? ⟨bk,i,none⟩=some (.int .i64 v):=by
  rw[hv]
  rcases Nat.eq_zero_or_pos i with h0|h0
  . rw[if_pos h0,h0];exact c0
  . obtain h1:i=1:=by omega
    rw[if_neg (by omega),h1];exact c1
 by_cases h0:v=0
 · have hd:decide (v=0)=true:=decide_eq_true h0
   simp -dsimp -implicitDefEqProofs (maxSteps:=2000000) (disch:=first|assumption|omega|simp only[nx];omega|(repeat apply zfp);assumption|simp only[smA];done|simp[oneCell,znp]) only[go_sem,e3,e6,e7,e8,hlI,hl0,indexV_eq,Nat.zero_add,Nat.mul_one,ci,hd]
   have n1:1≤i+1->a=0:=fun _=>by
    rcases Nat.eq_zero_or_pos i with q|q
    . rw[if_pos q]at hv;omega
    . exact hz q
   have n2:2≤i+1->b=0:=fun _=>by
    rw[if_neg (by omega)]at hv;omega
   refine⟨_,by omega,i+1,by omega,rfl,rfl,by(simp only[go_sem,e3];try rfl),by(simp only[go_sem,e6];try rfl),by(simp only[go_sem,e7];try rfl),by(simp only[go_sem,e8];try rfl),n1,n2,rfl⟩
 . have hd:decide (v=0)=false:=decide_eq_false h0
   simp -dsimp -implicitDefEqProofs (maxSteps:=2000000) (disch:=first|assumption|omega|simp only[nx];omega|(repeat apply zfp);assumption|simp only[smA];done|simp[oneCell,znp]) only[go_sem,e3,e6,e7,e8,hlI,hl0,indexV_eq,Nat.zero_add,Nat.mul_one,ci,hd]
   refine⟨?_,rfl⟩
   unfold orI
   rcases Nat.eq_zero_or_pos i with q|q
   . rw[if_pos q]at hv;rw[if_neg (by omega),hv]
   . rw[if_neg (by omega)]at hv;rw[if_pos (hz q),hv]
theorem Tryz.bs24x2 (t:Tmps) (l:List (Nat × Operand)):makes (prg Tryz.prog) t (.buildSlice 24 2 ⟨l⟩)=bsQ 3 2 1 [.int .i64 0,.int .i64 0] (l.map fun p=>(p.1,ev t p.2)):=makes_bs Tryz.ty24 Tryz.ty3 rfl (by kernel_rfl)
theorem cmpN_is (x y:Nat):orI (cmpI (popN x:Int) (popN y:Int)) (cmpI (x:Int) (y:Int))=cmpN x y:=by
 unfold orI cmpI cmpN
 repeat' split
 all_goals omega
theorem cmpSets_ok (x y:Nat) (hx:x < 64) (hy:y < 64) (w:AW) (f:Fresh w):CallT Tryz.prog Tryz.T0c (.fn (.func 95) #[]) #[.int .i64 (x:Int),.int .i64 (y:Int)] w fun v _=>v=.int .i64 (cmpN x y):=by
 refine callT_code rfl Tryz.func95 rfl Tryz.s95_eq rfl ?_
 delta Tryz.s95 zo zv zk
 simp -dsimp -implicitDefEqProofs (maxSteps:=2000000) (disch:=first|assumption|omega|simp only[nx];omega|(repeat apply zfp);assumption|simp only[smA];done|simp[oneCell,znp]) only[go_sem]
 apply callV_of (e:=rfl)
 . exact sizeT_ok x hx w
 rintro _ _ ⟨rfl,rfl⟩
 simp -dsimp -implicitDefEqProofs (maxSteps:=2000000) (disch:=first|assumption|omega|simp only[nx];omega|(repeat apply zfp);assumption|simp only[smA];done|simp[oneCell,znp]) only[go_sem]
 apply callV_of (e:=rfl)
 . exact sizeT_ok y hy w
 rintro _ _ ⟨rfl,rfl⟩
 simp -dsimp -implicitDefEqProofs (maxSteps:=2000000) (disch:=first|assumption|omega|simp only[nx];omega|(repeat apply zfp);assumption|simp only[smA];done|simp[oneCell,znp]) only[go_sem]
 apply callV_of (e:=rfl)
 . exact compare_ok _ _ w
 rintro _ _ ⟨rfl,rfl⟩
 simp -dsimp -implicitDefEqProofs (maxSteps:=2000000) (disch:=first|assumption|omega|simp only[nx];omega|(repeat apply zfp);assumption|simp only[smA];done|simp[oneCell,znp]) only[go_sem]
 apply callV_of (e:=rfl)
 . exact compareP_ok _ _ w
 rintro _ _ ⟨rfl,rfl⟩
 simp -dsimp -implicitDefEqProofs (maxSteps:=2000000) (disch:=first|assumption|omega|simp only[nx];omega|(repeat apply zfp);assumption|simp only[smA];done|simp[oneCell,znp]) only[go_sem,Tryz.bs24x2,bsQ_21]
 apply callV_of (e:=rfl)
 . exact or_ok _ _ w.next _ (Own.new f 3 [.int .i64 (cmpI (popN x:Int) (popN y:Int)),.int .i64 (cmpI (x:Int) (y:Int))])
 rintro _ _ ⟨rfl,rfl⟩
 simp -dsimp -implicitDefEqProofs (maxSteps:=2000000) (disch:=first|assumption|omega|simp only[nx];omega|(repeat apply zfp);assumption|simp only[smA];done|simp[oneCell,znp]) only[go_sem]
 rw[cmpN_is]
end Go.Proofs

namespace Go.Sim
open Go Go.RowKit
variable {P:Program} {N F:Nat}
inductive GDat where
 | flat (v:Value)
 | sl (n c:Nat) (cells:List GDat)
 | agg (ds:List GDat)
def matchCells (m:GDat->Value->Bool) (w:AW) (b:Nat):List GDat->Nat->Bool
 | [],_=>true
 | d :: l,o=>match w.cell? ⟨b,o,none⟩ with
  | some u=>m d u && matchCells m w b l (o+1)
  | none=>false
def matchAll (m:GDat->Value->Bool):List GDat->List Value->Bool
 | [],[]=>true
 | d :: l,v :: r=>m d v && matchAll m l r
 | _,_=>false
def zeroZ (w:AW) (b:Nat):Bool :=
 match w.blk b with
 | some (.cells _ _ _ _ 0)|some (.given _)=>true
 | _=>false
def matchV (w:AW):Nat->GDat->Value->Bool
 | 0,_,_=>false
 | k+1,d,v=>match d,v with
  | .flat u,v=>flat 6 u && same 12 u v
  | .sl n c cells,.slice (some ⟨b,o,none⟩) n' c'=>Nat.beq n n' && Nat.beq c c' && Nat.blt 0 c && zeroZ w b && matchCells (matchV w k) w b cells o
  | .agg ds,.agg cs=>matchAll (matchV w k) ds cs.toList
  | _,_=>false
def giveAll (g:GDat->AW->Value × AW):List GDat->AW->List Value × AW
 | [],w=>([],w)
 | d :: l,w=>match g d w with
  | (u,w1)=>match giveAll g l w1 with
   | (us,w2)=>(u :: us,w2)
def giveV:Nat->GDat->AW->Value × AW
 | 0,_,w=>(undef,w)
 | k + 1,d,w=>match d with
  | .flat u=>(u,w)
  | .sl n c cells=>match giveAll (giveV k) cells w with
   | (us,w1)=>(.slice (some ⟨w1.next,0,none⟩) n c,w1.push (.given us))
  | .agg ds=>match giveAll (giveV k) ds w with
   | (us,w1)=>(.agg us.toArray,w1)
def GiveOk (W:World) (m:GDat->Value->Bool) (g:GDat->AW->Value × AW) (σ:Emb):Prop :=
 ∀ d v v',m d v=true->VRel σ v v'->∀ (σ0:Emb) (w0:AW),WRel W.heap.size σ0 w0 W->∃ σ1:Emb,σ0.le σ1/\WRel W.heap.size σ1 (g d w0).2 W/\VRel σ1 (g d w0).1 v'
theorem giveAll_ok {W:World} {m:GDat->Value->Bool} {g:GDat->AW->Value × AW} {σ:Emb} (h:GiveOk W m g σ):∀ (ds:List GDat) (vs vs':List Value),matchAll m ds vs=true->LRel σ vs vs'->∀ (σ0:Emb) (w0:AW),WRel W.heap.size σ0 w0 W ->
    ∃ σ1:Emb,σ0.le σ1/\WRel W.heap.size σ1 (giveAll g ds w0).2 W/\LRel σ1 (giveAll g ds w0).1 vs'
 | [],[],vs',_,hr,σ0,w0,hw=>by
  cases hr
  exact⟨σ0,.refl _,hw,.nil⟩
 | d :: l,v :: r,vs',hm,hr,σ0,w0,hw=>by
  cases hr with
  | cons h1 h2 =>
   simp only[matchAll,Bool.and_eq_true]at hm
   obtain⟨σ1,a1,a2,a3⟩:=h d v _ hm.1 h1 σ0 w0 hw
   obtain⟨σ2,b1,b2,b3⟩:=giveAll_ok h l r _ hm.2 h2 σ1 _ a2
   exact⟨σ2,a1.trans b1,b2,.cons (a3.mono b1) b3⟩
 | [],_ :: _,_,h,_,_,_,_=>by simp[matchAll]at h
 | _ :: _,[],_,h,_,_,_,_=>by simp[matchAll]at h
theorem cells_list {W:World} {w:AW} {σ:Emb} {N:Nat} (hw:WRel N σ w W) {m:GDat->Value->Bool} {b:Nat} {x:Loc} (hb:σ b=some x):∀ (ds:List GDat) (o:Nat),matchCells m w b ds o=true ->
    ∃ vs vs':List Value,matchAll m ds vs=true/\LRel σ vs vs'/\vs'.length=ds.length/\∀ (i:Nat) u,vs'[i]? = some u->W.cell? ⟨x.c,x.s+(o+i),none⟩=some u
 | [],o,_=>⟨[],[],rfl,.nil,rfl,fun i u h=>by simp at h⟩
 | d :: l,o,h=>by
  simp only[matchCells]at h
  split at h
  case h_2=>cases h
  rename_i u hu
  simp only[Bool.and_eq_true]at h
  obtain⟨u',h1,h2,_⟩:=hw.cell hb hu
  obtain⟨vs,vs',a1,a2,a3,a4⟩:=cells_list hw hb l (o+1) h.2
  refine⟨u :: vs,u' :: vs',by simp only[matchAll,Bool.and_eq_true];exact⟨h.1,a1⟩,.cons h2 a2,by simp[a3],fun i q hq=>?_⟩
  cases i with
  | zero=>simp at hq;subst hq;exact h1
  | succ i=>simp at hq;have:=a4 i q hq;rw[show o+(i+1)=o+1+i by omega];exact this
theorem give_ok {W:World} {w:AW} {σ:Emb} (hw:WRel N σ w W):∀ k,GiveOk W (matchV w k) (giveV k) σ
 | 0=>fun d v v' h=>by simp[matchV]at h
 | k + 1 => by
  have ih:=give_ok hw k
  intro d v v' hm hr σ0 w0 h0
  unfold matchV at hm
  split at hm
  . rename_i u
    simp only[Bool.and_eq_true]at hm
    have:=same_eq 12 _ _ hm.2
    subst this
    have e:=flat_eq 6 _ hm.1 σ v' hr
    subst e
    exact⟨σ0,.refl _,h0,flat_self 6 _ hm.1 σ0⟩
  · rename_i n c cells b o n' c'
    simp only[Bool.and_eq_true]at hm
    obtain⟨⟨⟨⟨h1,h2⟩,h5⟩,h3⟩,h4⟩:=hm
    obtain rfl:=Nat.eq_of_beq_eq_true h1
    obtain rfl:=Nat.eq_of_beq_eq_true h2
    have hzx:∀ x,σ b=some x->x.z=0:=by
     intro x hx
     obtain⟨_,q,hq,hl,hb⟩:=hw.dom b x hx
     unfold zeroZ at h3
     rw[hq]at h3
     cases q with
     | cells c0 e0 r0 b0 z0 =>
      split at h3
      . rename_i e;injection e with e;injection e with _ _ _ _ e;subst e;exact hb.1
      . rename_i e;injection e with e;cases e
      . cases h3
     | given c0=>exact hl.1
     | _=>simp at h3
    cases hr with
    | slice hx hk hcap =>
     rename_i k' x
     have hz:=hzx x hx
     have hkk:k'=c:=by rcases hcap with q|q;exact q;omega
     subst hkk
     obtain⟨vs,vs',b1,b2,b3,b4⟩:=cells_list hw hx cells o h4
     obtain⟨σ1,a1,a2,a3⟩:=giveAll_ok ih cells vs vs' b1 b2 σ0 w0 h0
     simp only[giveV]
     have hlen:=a3.length
     refine⟨σ1.with (giveAll (giveV k) cells w0).2.next ⟨x.c,x.s+o,0,0⟩,a1.trans (Emb.le_with a2.fresh _),WRel.give a2 _ _ rfl ?_ ?_,?_⟩
     · cases hv:(giveAll (giveV k) cells w0).1 with
       | nil=>exact .inl rfl
       | cons y ys =>
        right
        rw[hv]at hlen
        have h1:=b4 0 (vs'[0]'(by rw[<- hlen];simp)) (by simp)
        obtain⟨cc,ce,fr,q,_⟩:=cell_at h1
        rcases Nat.lt_or_ge x.c W.heap.size with q'|q'
        . exact q'
        . rw[Array.getElem?_eq_none q']at q;cases q
     . intro i u hi hone
       obtain⟨u',hu',r⟩:=a3.getSome hi
       obtain⟨cc,ce,fr,q,q2⟩:=cell_at (b4 i u' hu')
       exact⟨cc,ce,fr,u',q,by rw[show x.s+o+i=x.s+(o+i) by omega];exact q2,r⟩
     . exact VRel.slice (x:=⟨x.c,x.s+o,0,0⟩) (o:=0) (Emb.with_self _ _ _) (Nat.le_refl _) (.inl rfl)
    | tail hx a=>exact absurd (Nat.blt_eq.mp h5) (by omega)
  · rename_i ds cs
    cases hr with
    | agg ha hav =>
     rename_i cs'
     have hl:LRel σ cs.toList cs'.toList:=ARel.iff.1 (by exact⟨ha,hav⟩)
     obtain⟨σ1,a1,a2,a3⟩:=giveAll_ok ih ds cs.toList cs'.toList hm hl σ0 w0 h0
     exact⟨σ1,a1,a2,VRel.agg_of (ARel.iff.2 (by simpa [giveV] using a3))⟩
  . cases hm
theorem calls_give (hP:Fit P) (hfol:P.follows .mixedOrders=true) {told:ToldF} (ht:∀ N,ToldOk P N told) {n k:Nat} {f:FuncId} {ds:List GDat} {v:Value} (hno:(told f ((giveAll (giveV k) ds .empty).1.toArray++#[]) (giveAll (giveV k) ds .empty).2).isNone=true) (hv:flat 6 v=true)
    (h:isVal (xcall (prg P) (xsOf (prg P)) told F (n+1) (.fn (.func f) #[]) (giveAll (giveV k) ds .empty).1 (giveAll (giveV k) ds .empty).2) v=true) {N:Nat} {σ:Emb} {w:AW} {W:World} (hw:WRel N σ w W) {args args':List Value} (hm:matchAll (matchV w k) ds args=true) (hr:LRel σ args args') :
    Calls P f args'.toArray W fun e W'=>e=.returned v/\BelowD W.heap.size W W':=by
 obtain⟨σ0,_,g2,g3⟩:=giveAll_ok (give_ok hw k) ds args args' hm hr (fun _=>none) .empty (WRel.empty W)
 generalize (giveAll (giveV k) ds .empty).1=us at *
 generalize (giveAll (giveV k) ds .empty).2=w0 at *
 rw[xcall_eq hP.funcs]at h
 unfold isVal at h
 split at h
 case h_2=>cases h
 rename_i u w1 hr'
 have hu:=same_eq 12 _ _ h
 subst hu
 simp only[acall]at hr'
 rw[Option.isNone_iff_eq_none.mp hno]at hr'
 simp only[Array.append_empty]at hr'
 intro cs
 have ha:ARel σ0 us.toArray args'.toArray:=ARel.iff.2 (by simpa using g3)
 obtain⟨σ',v',W',fr,s,hf,hlv,e,r⟩:=enter_leaves hP hfol (call_ok hP hfol (ht W.heap.size) n) (call_pan hP hfol (ht W.heap.size) n) hr' cs g2 (args':=args'.toArray) ha
 have:=flat_eq 6 v hv σ' v' r
 subst this
 exact⟨.returned v',W',fr,⟨rfl,e.below⟩,s,hf,hlv⟩
structure GMemo where
 f:FuncId
 k:Nat
 ds:List GDat
 val:Value
def findG (f:FuncId) (args:List Value) (w:AW):List GMemo->Option Value
 | []=>none
 | m :: l=>match Nat.beq f m.f with
  | true=>match matchAll (matchV w m.k) m.ds args with
   | true=>some m.val
   | false=>findG f args w l
  | false=>findG f args w l
def toldGive (tab:List GMemo) (told:ToldF):ToldF:=fun f args w =>
 match findG f args.toList w tab with
 | some v=>some (v,w)
 | none=>told f args w
structure GMemoOk (P:Program) (m:GMemo):Prop where
 enters:∀ args w,(callFunc m.f args).run P w=.ok (.enter m.f args) w
 flatVal:flat 6 m.val=true
 calls:∀ (N:Nat) (σ:Emb) (w:AW) (W:World),WRel N σ w W->∀ args args',matchAll (matchV w m.k) m.ds args=true->LRel σ args args'->Calls P m.f args'.toArray W fun e W'=>e=.returned m.val/\BelowD W.heap.size W W'
inductive GMemosOk (P:Program):List GMemo->Prop where
 | nil:GMemosOk P []
 | cons {m:GMemo} {l:List GMemo} (h:GMemoOk P m) (t:GMemosOk P l):GMemosOk P (m :: l)
theorem findG_ok {f:FuncId} {args:List Value} {w:AW} {v:Value}:∀ {tab:List GMemo},GMemosOk P tab->findG f args w tab=some v->∃ m,GMemoOk P m/\m.f=f/\matchAll (matchV w m.k) m.ds args=true/\m.val=v
 | _,.nil,h=>by cases h
 | _, .cons hm ht,h=>by
  simp only[findG]at h
  split at h
  · rename_i hf
    split at h
    . rename_i hs
      injection h with h
      exact⟨_,hm,(Nat.eq_of_beq_eq_true hf).symm,hs,h⟩
    . exact findG_ok ht h
  . exact findG_ok ht h
theorem toldGive_ok {tab:List GMemo} (hm:GMemosOk P tab) {told:ToldF} (ht:∀ N,ToldOk P N told) (N:Nat):ToldOk P N (toldGive tab told):=by
 intro f args w w1 v h σ W args0 cap c cs hw ha
 unfold toldGive at h
 split at h
 . rename_i u hu
   injection h with h;injection h with h1 h2
   subst h1 h2
   obtain⟨m,hok,rfl,hargs,rfl⟩:=findG_ok hm hu
   have hc:=hok.calls N σ w W hw args.toList (args0++cap).toList hargs (ARel.iff.1 ha)
   rw[show (args0++cap).toList.toArray=args0++cap from rfl]at hc
   obtain⟨W',d1,d2⟩:=delivers_calls hok.enters hc c cs
   exact⟨σ,_,W',d1,hw.aside d2,flat_self 6 _ hok.flatVal σ⟩
 . exact ht N f args w w1 v h σ W args0 cap c cs hw ha
end Go.Sim

namespace Go.Proofs
open Go Go.Shelf Go.RowKit Go.Sim
set_option maxRecDepth 1000000
theorem Tryz.fits:Fit Tryz.prog:=fit_of (by decide +kernel)
theorem Tryz.mixed:Tryz.prog.follows .mixedOrders=true:=by decide +kernel
theorem Tryz.told0 (N:Nat):ToldOk Tryz.prog N (fun _ _ _=>none):=fun f args w w1 v h=>by cases h
end Go.Proofs

namespace Go.Proofs
open Go Go.RowKit Go.Sim
set_option maxRecDepth 1000000
abbrev zi (n:Int):GDat:=.flat (.int .i64 n)
def Tryz.give0:GMemo:=⟨15,12,[.agg [.sl 3 3 [zi 0,zi 0,zi 0,zi 2,zi 0,zi 4,zi 1,zi 1,zi 0],.sl 3 3 [zi 0,zi 1,zi 1,.sl 1 1 [zi 1],zi 1,zi 2,zi 2,.sl 1 1 [zi 6],zi 0,zi 2,zi 1,.sl 1 1 [zi 8]],.sl 3 3 [zi 1,zi 2,zi 3]],zi 3],.tuple #[.int .i64 (7),.int .i64 (0)]⟩
theorem Tryz.give0_ok:GMemoOk Tryz.prog Tryz.give0:={
 enters:=fun args w=>Tryz.call15 args w
 flatVal:=by decide
 calls:=fun N σ w W hw args args' hm hr=>calls_give (F:=1000000) (told:=fun _ _ _=>none) Tryz.fits Tryz.mixed Tryz.told0 (n:=99) (k:=12) (ds:=Tryz.give0.ds) (by rfl) (by decide) (by decide +kernel) hw hm hr }
def Tryz.give1:GMemo:=⟨17,12,[.agg [.sl 3 3 [zi 0,zi 0,zi 0,zi 2,zi 0,zi 4,zi 1,zi 1,zi 0],.sl 3 3 [zi 0,zi 1,zi 1,.sl 1 1 [zi 1],zi 1,zi 2,zi 2,.sl 1 1 [zi 6],zi 0,zi 2,zi 1,.sl 1 1 [zi 8]],.sl 3 3 [zi 1,zi 2,zi 3]]],.int .i64 (0)⟩
theorem Tryz.give1_ok:GMemoOk Tryz.prog Tryz.give1:={
 enters:=fun args w=>Tryz.call17 args w
 flatVal:=by decide
 calls:=fun N σ w W hw args args' hm hr=>calls_give (F:=1000000) (told:=fun _ _ _=>none) Tryz.fits Tryz.mixed Tryz.told0 (n:=99) (k:=12) (ds:=Tryz.give1.ds) (by rfl) (by decide) (by decide +kernel) hw hm hr }
def Tryz.give2:GMemo:=⟨19,12,[.agg [.sl 3 3 [zi 0,zi 0,zi 0,zi 2,zi 0,zi 4,zi 1,zi 1,zi 0],.sl 3 3 [zi 0,zi 1,zi 1,.sl 1 1 [zi 1],zi 1,zi 2,zi 2,.sl 1 1 [zi 6],zi 0,zi 2,zi 1,.sl 1 1 [zi 8]],.sl 3 3 [zi 1,zi 2,zi 3]],zi 1,zi 3],.tuple #[.bool true,.int .i64 (0)]⟩
theorem Tryz.give2_ok:GMemoOk Tryz.prog Tryz.give2:={
 enters:=fun args w=>Tryz.call19 args w
 flatVal:=by decide
 calls:=fun N σ w W hw args args' hm hr=>calls_give (F:=1000000) (told:=fun _ _ _=>none) Tryz.fits Tryz.mixed Tryz.told0 (n:=99) (k:=12) (ds:=Tryz.give2.ds) (by rfl) (by decide) (by decide +kernel) hw hm hr }
def Tryz.give3:GMemo:=⟨31,12,[.agg [.sl 3 3 [zi 0,zi 0,zi 0,zi 2,zi 0,zi 4,zi 1,zi 1,zi 0],.sl 3 3 [zi 0,zi 1,zi 1,.sl 1 1 [zi 1],zi 1,zi 2,zi 2,.sl 1 1 [zi 6],zi 0,zi 2,zi 1,.sl 1 1 [zi 8]],.sl 3 3 [zi 1,zi 2,zi 3]],.sl 3 3 [zi 5,zi 1,zi 7,zi 1,zi 0,zi 1,zi 10,zi 3,zi 6,zi 2,zi 7,zi 2,zi 1,zi 2,zi 0,zi 0,zi 8,zi 3,zi 7,zi 0,zi 0,zi 1,zi 10,zi 0]],.tuple #[.agg #[.int .i64 (0),.int .i64 (0),.int .i64 (0),.int .i64 (0),.int .i64 (0),.int .i64 (0),.int .i64 (0),.int .i64 (0),.int .i64 (0),.int .i64 (0),.int .i64 (0),.int .i64 (0),.int .i64 (0),.int .i64 (0),.int .i64 (0),.int .i64 (0),.int .i64 (0),.int .i64 (0),.int .i64 (0),.int .i64 (0),.int .i64 (0),.int .i64 (0),.int .i64 (0),.int .i64 (0),.int .i64 (0),.int .i64 (0),.int .i64 (0),.int .i64 (0),.int .i64 (0),.int .i64 (0),.int .i64 (0),.int .i64 (0),.int .i64 (0),.int .i64 (0),.int .i64 (0),.int .i64 (2),.int .i64 (10),.int .i64 (3),.int .i64 (0),.int .i64 (1),.int .i64 (0),.int .i64 (0),.int .i64 (0),.int .i64 (0),.int .i64 (0),.int .i64 (0),.int .i64 (0),.int .i64 (0),.int .i64 (0),.int .i64 (0),.int .i64 (0),.int .i64 (0),.int .i64 (0),.int .i64 (0),.int .i64 (0),.int .i64 (0),.int .i64 (0),.int .i64 (0),.int .i64 (0),.int .i64 (0),.int .i64 (0),.int .i64 (0),.int .i64 (0),.int .i64 (0),.int .i64 (0),.int .i64 (0),.int .i64 (0),.int .i64 (0),.int .i64 (0),.int .i64 (0),.int .i64 (0),.int .i64 (0),.int .i64 (0),.int .i64 (0),.int .i64 (0),.int .i64 (0),.int .i64 (0),.int .i64 (0),.int .i64 (0),.int .i64 (0),.int .i64 (0),.int .i64 (0),.int .i64 (0),.int .i64 (0),.int .i64 (0),.int .i64 (0),.int .i64 (0),.int .i64 (0),.int .i64 (0),.int .i64 (0),.int .i64 (0),.int .i64 (0),.int .i64 (0),.int .i64 (0),.int .i64 (0),.int .i64 (0),.int .i64 (0),.int .i64 (0),.int .i64 (0),.int .i64 (0),.int .i64 (0),.int .i64 (0),.int .i64 (0),.int .i64 (0),.int .i64 (0),.int .i64 (0),.int .i64 (0),.int .i64 (0),.int .i64 (0),.int .i64 (0),.int .i64 (0),.int .i64 (0),.int .i64 (0),.int .i64 (0),.int .i64 (0),.int .i64 (0),.int .i64 (0),.int .i64 (0),.int .i64 (0),.int .i64 (0),.int .i64 (0),.int .i64 (0),.int .i64 (0),.int .i64 (0),.int .i64 (0),.int .i64 (0),.int .i64 (0),.int .i64 (0),.int .i64 (0),.int .i64 (0),.int .i64 (0),.int .i64 (0),.int .i64 (0),.int .i64 (0),.int .i64 (0),.int .i64 (0),.int .i64 (0),.int .i64 (0),.int .i64 (0),.int .i64 (0),.int .i64 (0),.int .i64 (0),.int .i64 (0),.int .i64 (0),.int .i64 (0),.int .i64 (0),.int .i64 (0),.int .i64 (0),.int .i64 (0),.int .i64 (0),.int .i64 (0),.int .i64 (0),.int .i64 (0),.int .i64 (0),.int .i64 (0),.int .i64 (0),.int .i64 (0),.int .i64 (0),.int .i64 (0),.int .i64 (0)],.int .i64 (3),.int .i64 (0)]⟩
theorem Tryz.give3_ok:GMemoOk Tryz.prog Tryz.give3:={
 enters:=fun args w=>Tryz.call31 args w
 flatVal:=by decide
 calls:=fun N σ w W hw args args' hm hr=>calls_give (F:=1000000) (told:=fun _ _ _=>none) Tryz.fits Tryz.mixed Tryz.told0 (n:=99) (k:=12) (ds:=Tryz.give3.ds) (by rfl) (by decide) (by decide +kernel) hw hm hr }
def Tryz.give4:GMemo:=⟨33,12,[.agg [.sl 3 3 [zi 0,zi 0,zi 0,zi 2,zi 0,zi 4,zi 1,zi 1,zi 0],.sl 3 3 [zi 0,zi 1,zi 1,.sl 1 1 [zi 1],zi 1,zi 2,zi 2,.sl 1 1 [zi 6],zi 0,zi 2,zi 1,.sl 1 1 [zi 8]],.sl 3 3 [zi 1,zi 2,zi 3]],.sl 3 3 [zi 5,zi 1,zi 7,zi 1,zi 0,zi 1,zi 10,zi 3,zi 6,zi 2,zi 7,zi 2,zi 1,zi 2,zi 0,zi 0,zi 8,zi 3,zi 7,zi 0,zi 0,zi 1,zi 10,zi 0],zi 7,zi 5],.tuple #[.int .i64 (1),.int .i64 (0)]⟩
theorem Tryz.give4_ok:GMemoOk Tryz.prog Tryz.give4:={
 enters:=fun args w=>Tryz.call33 args w
 flatVal:=by decide
 calls:=fun N σ w W hw args args' hm hr=>calls_give (F:=1000000) (told:=fun _ _ _=>none) Tryz.fits Tryz.mixed Tryz.told0 (n:=99) (k:=12) (ds:=Tryz.give4.ds) (by rfl) (by decide) (by decide +kernel) hw hm hr }
def Tryz.give5:GMemo:=⟨58,12,[.agg [.sl 3 3 [zi 0,zi 0,zi 0,zi 2,zi 0,zi 4,zi 1,zi 1,zi 0],.sl 3 3 [zi 0,zi 1,zi 1,.sl 1 1 [zi 1],zi 1,zi 2,zi 2,.sl 1 1 [zi 6],zi 0,zi 2,zi 1,.sl 1 1 [zi 8]],.sl 3 3 [zi 1,zi 2,zi 3]],zi 1],.int .i64 (0)⟩
theorem Tryz.give5_ok:GMemoOk Tryz.prog Tryz.give5:={
 enters:=fun args w=>Tryz.call58 args w
 flatVal:=by decide
 calls:=fun N σ w W hw args args' hm hr=>calls_give (F:=1000000) (told:=fun _ _ _=>none) Tryz.fits Tryz.mixed Tryz.told0 (n:=99) (k:=12) (ds:=Tryz.give5.ds) (by rfl) (by decide) (by decide +kernel) hw hm hr }
def Tryz.give6:GMemo:=⟨58,12,[.agg [.sl 3 3 [zi 0,zi 0,zi 0,zi 2,zi 0,zi 4,zi 1,zi 1,zi 0],.sl 3 3 [zi 0,zi 1,zi 1,.sl 1 1 [zi 1],zi 1,zi 2,zi 2,.sl 1 1 [zi 6],zi 0,zi 2,zi 1,.sl 1 1 [zi 8]],.sl 3 3 [zi 1,zi 2,zi 3]],zi 2],.int .i64 (0)⟩
theorem Tryz.give6_ok:GMemoOk Tryz.prog Tryz.give6:={
 enters:=fun args w=>Tryz.call58 args w
 flatVal:=by decide
 calls:=fun N σ w W hw args args' hm hr=>calls_give (F:=1000000) (told:=fun _ _ _=>none) Tryz.fits Tryz.mixed Tryz.told0 (n:=99) (k:=12) (ds:=Tryz.give6.ds) (by rfl) (by decide) (by decide +kernel) hw hm hr }
def Tryz.give7:GMemo:=⟨67,12,[.agg [.sl 3 3 [zi 0,zi 0,zi 0,zi 2,zi 0,zi 4,zi 1,zi 1,zi 0],.sl 3 3 [zi 0,zi 1,zi 1,.sl 1 1 [zi 1],zi 1,zi 2,zi 2,.sl 1 1 [zi 6],zi 0,zi 2,zi 1,.sl 1 1 [zi 8]],.sl 3 3 [zi 1,zi 2,zi 3]],zi 0,zi 2],.bool false⟩
theorem Tryz.give7_ok:GMemoOk Tryz.prog Tryz.give7:={
 enters:=fun args w=>Tryz.call67 args w
 flatVal:=by decide
 calls:=fun N σ w W hw args args' hm hr=>calls_give (F:=1000000) (told:=fun _ _ _=>none) Tryz.fits Tryz.mixed Tryz.told0 (n:=99) (k:=12) (ds:=Tryz.give7.ds) (by rfl) (by decide) (by decide +kernel) hw hm hr }
def Tryz.give8:GMemo:=⟨67,12,[.agg [.sl 3 3 [zi 0,zi 0,zi 0,zi 2,zi 0,zi 4,zi 1,zi 1,zi 0],.sl 3 3 [zi 0,zi 1,zi 1,.sl 1 1 [zi 1],zi 1,zi 2,zi 2,.sl 1 1 [zi 6],zi 0,zi 2,zi 1,.sl 1 1 [zi 8]],.sl 3 3 [zi 1,zi 2,zi 3]],zi 0,zi 4],.bool false⟩
theorem Tryz.give8_ok:GMemoOk Tryz.prog Tryz.give8:={
 enters:=fun args w=>Tryz.call67 args w
 flatVal:=by decide
 calls:=fun N σ w W hw args args' hm hr=>calls_give (F:=1000000) (told:=fun _ _ _=>none) Tryz.fits Tryz.mixed Tryz.told0 (n:=99) (k:=12) (ds:=Tryz.give8.ds) (by rfl) (by decide) (by decide +kernel) hw hm hr }
def Tryz.give9:GMemo:=⟨67,12,[.agg [.sl 3 3 [zi 0,zi 0,zi 0,zi 2,zi 0,zi 4,zi 1,zi 1,zi 0],.sl 3 3 [zi 0,zi 1,zi 1,.sl 1 1 [zi 1],zi 1,zi 2,zi 2,.sl 1 1 [zi 6],zi 0,zi 2,zi 1,.sl 1 1 [zi 8]],.sl 3 3 [zi 1,zi 2,zi 3]],zi 0,zi 6],.bool false⟩
theorem Tryz.give9_ok:GMemoOk Tryz.prog Tryz.give9:={
 enters:=fun args w=>Tryz.call67 args w
 flatVal:=by decide
 calls:=fun N σ w W hw args args' hm hr=>calls_give (F:=1000000) (told:=fun _ _ _=>none) Tryz.fits Tryz.mixed Tryz.told0 (n:=99) (k:=12) (ds:=Tryz.give9.ds) (by rfl) (by decide) (by decide +kernel) hw hm hr }
def Tryz.give10:GMemo:=⟨67,12,[.agg [.sl 3 3 [zi 0,zi 0,zi 0,zi 2,zi 0,zi 4,zi 1,zi 1,zi 0],.sl 3 3 [zi 0,zi 1,zi 1,.sl 1 1 [zi 1],zi 1,zi 2,zi 2,.sl 1 1 [zi 6],zi 0,zi 2,zi 1,.sl 1 1 [zi 8]],.sl 3 3 [zi 1,zi 2,zi 3]],zi 1,zi 2],.bool true⟩
theorem Tryz.give10_ok:GMemoOk Tryz.prog Tryz.give10:={
 enters:=fun args w=>Tryz.call67 args w
 flatVal:=by decide
 calls:=fun N σ w W hw args args' hm hr=>calls_give (F:=1000000) (told:=fun _ _ _=>none) Tryz.fits Tryz.mixed Tryz.told0 (n:=99) (k:=12) (ds:=Tryz.give10.ds) (by rfl) (by decide) (by decide +kernel) hw hm hr }
def Tryz.give11:GMemo:=⟨67,12,[.agg [.sl 3 3 [zi 0,zi 0,zi 0,zi 2,zi 0,zi 4,zi 1,zi 1,zi 0],.sl 3 3 [zi 0,zi 1,zi 1,.sl 1 1 [zi 1],zi 1,zi 2,zi 2,.sl 1 1 [zi 6],zi 0,zi 2,zi 1,.sl 1 1 [zi 8]],.sl 3 3 [zi 1,zi 2,zi 3]],zi 1,zi 4],.bool false⟩
theorem Tryz.give11_ok:GMemoOk Tryz.prog Tryz.give11:={
 enters:=fun args w=>Tryz.call67 args w
 flatVal:=by decide
 calls:=fun N σ w W hw args args' hm hr=>calls_give (F:=1000000) (told:=fun _ _ _=>none) Tryz.fits Tryz.mixed Tryz.told0 (n:=99) (k:=12) (ds:=Tryz.give11.ds) (by rfl) (by decide) (by decide +kernel) hw hm hr }
def Tryz.give12:GMemo:=⟨67,12,[.agg [.sl 3 3 [zi 0,zi 0,zi 0,zi 2,zi 0,zi 4,zi 1,zi 1,zi 0],.sl 3 3 [zi 0,zi 1,zi 1,.sl 1 1 [zi 1],zi 1,zi 2,zi 2,.sl 1 1 [zi 6],zi 0,zi 2,zi 1,.sl 1 1 [zi 8]],.sl 3 3 [zi 1,zi 2,zi 3]],zi 1,zi 6],.bool true⟩
theorem Tryz.give12_ok:GMemoOk Tryz.prog Tryz.give12:={
 enters:=fun args w=>Tryz.call67 args w
 flatVal:=by decide
 calls:=fun N σ w W hw args args' hm hr=>calls_give (F:=1000000) (told:=fun _ _ _=>none) Tryz.fits Tryz.mixed Tryz.told0 (n:=99) (k:=12) (ds:=Tryz.give12.ds) (by rfl) (by decide) (by decide +kernel) hw hm hr }
def Tryz.give13:GMemo:=⟨67,12,[.agg [.sl 3 3 [zi 0,zi 0,zi 0,zi 2,zi 0,zi 4,zi 1,zi 1,zi 0],.sl 3 3 [zi 0,zi 1,zi 1,.sl 1 1 [zi 1],zi 1,zi 2,zi 2,.sl 1 1 [zi 6],zi 0,zi 2,zi 1,.sl 1 1 [zi 8]],.sl 3 3 [zi 1,zi 2,zi 3]],zi 2,zi 2],.bool false⟩
theorem Tryz.give13_ok:GMemoOk Tryz.prog Tryz.give13:={
 enters:=fun args w=>Tryz.call67 args w
 flatVal:=by decide
 calls:=fun N σ w W hw args args' hm hr=>calls_give (F:=1000000) (told:=fun _ _ _=>none) Tryz.fits Tryz.mixed Tryz.told0 (n:=99) (k:=12) (ds:=Tryz.give13.ds) (by rfl) (by decide) (by decide +kernel) hw hm hr }
def Tryz.give14:GMemo:=⟨67,12,[.agg [.sl 3 3 [zi 0,zi 0,zi 0,zi 2,zi 0,zi 4,zi 1,zi 1,zi 0],.sl 3 3 [zi 0,zi 1,zi 1,.sl 1 1 [zi 1],zi 1,zi 2,zi 2,.sl 1 1 [zi 6],zi 0,zi 2,zi 1,.sl 1 1 [zi 8]],.sl 3 3 [zi 1,zi 2,zi 3]],zi 2,zi 4],.bool false⟩
theorem Tryz.give14_ok:GMemoOk Tryz.prog Tryz.give14:={
 enters:=fun args w=>Tryz.call67 args w
 flatVal:=by decide
 calls:=fun N σ w W hw args args' hm hr=>calls_give (F:=1000000) (told:=fun _ _ _=>none) Tryz.fits Tryz.mixed Tryz.told0 (n:=99) (k:=12) (ds:=Tryz.give14.ds) (by rfl) (by decide) (by decide +kernel) hw hm hr }
def Tryz.give15:GMemo:=⟨67,12,[.agg [.sl 3 3 [zi 0,zi 0,zi 0,zi 2,zi 0,zi 4,zi 1,zi 1,zi 0],.sl 3 3 [zi 0,zi 1,zi 1,.sl 1 1 [zi 1],zi 1,zi 2,zi 2,.sl 1 1 [zi 6],zi 0,zi 2,zi 1,.sl 1 1 [zi 8]],.sl 3 3 [zi 1,zi 2,zi 3]],zi 2,zi 6],.bool false⟩
theorem Tryz.give15_ok:GMemoOk Tryz.prog Tryz.give15:={
 enters:=fun args w=>Tryz.call67 args w
 flatVal:=by decide
 calls:=fun N σ w W hw args args' hm hr=>calls_give (F:=1000000) (told:=fun _ _ _=>none) Tryz.fits Tryz.mixed Tryz.told0 (n:=99) (k:=12) (ds:=Tryz.give15.ds) (by rfl) (by decide) (by decide +kernel) hw hm hr }
def Tryz.give16:GMemo:=⟨67,12,[.agg [.sl 3 3 [zi 0,zi 0,zi 0,zi 2,zi 0,zi 4,zi 1,zi 1,zi 0],.sl 3 3 [zi 0,zi 1,zi 1,.sl 1 1 [zi 1],zi 1,zi 2,zi 2,.sl 1 1 [zi 6],zi 0,zi 2,zi 1,.sl 1 1 [zi 8]],.sl 3 3 [zi 1,zi 2,zi 3]],zi 3,zi 2],.bool true⟩
theorem Tryz.give16_ok:GMemoOk Tryz.prog Tryz.give16:={
 enters:=fun args w=>Tryz.call67 args w
 flatVal:=by decide
 calls:=fun N σ w W hw args args' hm hr=>calls_give (F:=1000000) (told:=fun _ _ _=>none) Tryz.fits Tryz.mixed Tryz.told0 (n:=99) (k:=12) (ds:=Tryz.give16.ds) (by rfl) (by decide) (by decide +kernel) hw hm hr }
def Tryz.give17:GMemo:=⟨67,12,[.agg [.sl 3 3 [zi 0,zi 0,zi 0,zi 2,zi 0,zi 4,zi 1,zi 1,zi 0],.sl 3 3 [zi 0,zi 1,zi 1,.sl 1 1 [zi 1],zi 1,zi 2,zi 2,.sl 1 1 [zi 6],zi 0,zi 2,zi 1,.sl 1 1 [zi 8]],.sl 3 3 [zi 1,zi 2,zi 3]],zi 3,zi 4],.bool true⟩
theorem Tryz.give17_ok:GMemoOk Tryz.prog Tryz.give17:={
 enters:=fun args w=>Tryz.call67 args w
 flatVal:=by decide
 calls:=fun N σ w W hw args args' hm hr=>calls_give (F:=1000000) (told:=fun _ _ _=>none) Tryz.fits Tryz.mixed Tryz.told0 (n:=99) (k:=12) (ds:=Tryz.give17.ds) (by rfl) (by decide) (by decide +kernel) hw hm hr }
def Tryz.give18:GMemo:=⟨67,12,[.agg [.sl 3 3 [zi 0,zi 0,zi 0,zi 2,zi 0,zi 4,zi 1,zi 1,zi 0],.sl 3 3 [zi 0,zi 1,zi 1,.sl 1 1 [zi 1],zi 1,zi 2,zi 2,.sl 1 1 [zi 6],zi 0,zi 2,zi 1,.sl 1 1 [zi 8]],.sl 3 3 [zi 1,zi 2,zi 3]],zi 3,zi 6],.bool true⟩
theorem Tryz.give18_ok:GMemoOk Tryz.prog Tryz.give18:={
 enters:=fun args w=>Tryz.call67 args w
 flatVal:=by decide
 calls:=fun N σ w W hw args args' hm hr=>calls_give (F:=1000000) (told:=fun _ _ _=>none) Tryz.fits Tryz.mixed Tryz.told0 (n:=99) (k:=12) (ds:=Tryz.give18.ds) (by rfl) (by decide) (by decide +kernel) hw hm hr }
def Tryz.give19:GMemo:=⟨67,12,[.agg [.sl 3 3 [zi 0,zi 0,zi 0,zi 2,zi 0,zi 4,zi 1,zi 1,zi 0],.sl 3 3 [zi 0,zi 1,zi 1,.sl 1 1 [zi 1],zi 1,zi 2,zi 2,.sl 1 1 [zi 6],zi 0,zi 2,zi 1,.sl 1 1 [zi 8]],.sl 3 3 [zi 1,zi 2,zi 3]],zi 4,zi 2],.bool true⟩
theorem Tryz.give19_ok:GMemoOk Tryz.prog Tryz.give19:={
 enters:=fun args w=>Tryz.call67 args w
 flatVal:=by decide
 calls:=fun N σ w W hw args args' hm hr=>calls_give (F:=1000000) (told:=fun _ _ _=>none) Tryz.fits Tryz.mixed Tryz.told0 (n:=99) (k:=12) (ds:=Tryz.give19.ds) (by rfl) (by decide) (by decide +kernel) hw hm hr }
def Tryz.give20:GMemo:=⟨67,12,[.agg [.sl 3 3 [zi 0,zi 0,zi 0,zi 2,zi 0,zi 4,zi 1,zi 1,zi 0],.sl 3 3 [zi 0,zi 1,zi 1,.sl 1 1 [zi 1],zi 1,zi 2,zi 2,.sl 1 1 [zi 6],zi 0,zi 2,zi 1,.sl 1 1 [zi 8]],.sl 3 3 [zi 1,zi 2,zi 3]],zi 4,zi 4],.bool false⟩
theorem Tryz.give20_ok:GMemoOk Tryz.prog Tryz.give20:={
 enters:=fun args w=>Tryz.call67 args w
 flatVal:=by decide
 calls:=fun N σ w W hw args args' hm hr=>calls_give (F:=1000000) (told:=fun _ _ _=>none) Tryz.fits Tryz.mixed Tryz.told0 (n:=99) (k:=12) (ds:=Tryz.give20.ds) (by rfl) (by decide) (by decide +kernel) hw hm hr }
def Tryz.give21:GMemo:=⟨67,12,[.agg [.sl 3 3 [zi 0,zi 0,zi 0,zi 2,zi 0,zi 4,zi 1,zi 1,zi 0],.sl 3 3 [zi 0,zi 1,zi 1,.sl 1 1 [zi 1],zi 1,zi 2,zi 2,.sl 1 1 [zi 6],zi 0,zi 2,zi 1,.sl 1 1 [zi 8]],.sl 3 3 [zi 1,zi 2,zi 3]],zi 4,zi 6],.bool true⟩
theorem Tryz.give21_ok:GMemoOk Tryz.prog Tryz.give21:={
 enters:=fun args w=>Tryz.call67 args w
 flatVal:=by decide
 calls:=fun N σ w W hw args args' hm hr=>calls_give (F:=1000000) (told:=fun _ _ _=>none) Tryz.fits Tryz.mixed Tryz.told0 (n:=99) (k:=12) (ds:=Tryz.give21.ds) (by rfl) (by decide) (by decide +kernel) hw hm hr }
def Tryz.give22:GMemo:=⟨67,12,[.agg [.sl 3 3 [zi 0,zi 0,zi 0,zi 2,zi 0,zi 4,zi 1,zi 1,zi 0],.sl 3 3 [zi 0,zi 1,zi 1,.sl 1 1 [zi 1],zi 1,zi 2,zi 2,.sl 1 1 [zi 6],zi 0,zi 2,zi 1,.sl 1 1 [zi 8]],.sl 3 3 [zi 1,zi 2,zi 3]],zi 5,zi 2],.bool true⟩
theorem Tryz.give22_ok:GMemoOk Tryz.prog Tryz.give22:={
 enters:=fun args w=>Tryz.call67 args w
 flatVal:=by decide
 calls:=fun N σ w W hw args args' hm hr=>calls_give (F:=1000000) (told:=fun _ _ _=>none) Tryz.fits Tryz.mixed Tryz.told0 (n:=99) (k:=12) (ds:=Tryz.give22.ds) (by rfl) (by decide) (by decide +kernel) hw hm hr }
def Tryz.give23:GMemo:=⟨67,12,[.agg [.sl 3 3 [zi 0,zi 0,zi 0,zi 2,zi 0,zi 4,zi 1,zi 1,zi 0],.sl 3 3 [zi 0,zi 1,zi 1,.sl 1 1 [zi 1],zi 1,zi 2,zi 2,.sl 1 1 [zi 6],zi 0,zi 2,zi 1,.sl 1 1 [zi 8]],.sl 3 3 [zi 1,zi 2,zi 3]],zi 5,zi 4],.bool true⟩
theorem Tryz.give23_ok:GMemoOk Tryz.prog Tryz.give23:={
 enters:=fun args w=>Tryz.call67 args w
 flatVal:=by decide
 calls:=fun N σ w W hw args args' hm hr=>calls_give (F:=1000000) (told:=fun _ _ _=>none) Tryz.fits Tryz.mixed Tryz.told0 (n:=99) (k:=12) (ds:=Tryz.give23.ds) (by rfl) (by decide) (by decide +kernel) hw hm hr }
def Tryz.give24:GMemo:=⟨67,12,[.agg [.sl 3 3 [zi 0,zi 0,zi 0,zi 2,zi 0,zi 4,zi 1,zi 1,zi 0],.sl 3 3 [zi 0,zi 1,zi 1,.sl 1 1 [zi 1],zi 1,zi 2,zi 2,.sl 1 1 [zi 6],zi 0,zi 2,zi 1,.sl 1 1 [zi 8]],.sl 3 3 [zi 1,zi 2,zi 3]],zi 5,zi 6],.bool true⟩
theorem Tryz.give24_ok:GMemoOk Tryz.prog Tryz.give24:={
 enters:=fun args w=>Tryz.call67 args w
 flatVal:=by decide
 calls:=fun N σ w W hw args args' hm hr=>calls_give (F:=1000000) (told:=fun _ _ _=>none) Tryz.fits Tryz.mixed Tryz.told0 (n:=99) (k:=12) (ds:=Tryz.give24.ds) (by rfl) (by decide) (by decide +kernel) hw hm hr }
def Tryz.give25:GMemo:=⟨67,12,[.agg [.sl 3 3 [zi 0,zi 0,zi 0,zi 2,zi 0,zi 4,zi 1,zi 1,zi 0],.sl 3 3 [zi 0,zi 1,zi 1,.sl 1 1 [zi 1],zi 1,zi 2,zi 2,.sl 1 1 [zi 6],zi 0,zi 2,zi 1,.sl 1 1 [zi 8]],.sl 3 3 [zi 1,zi 2,zi 3]],zi 6,zi 2],.bool true⟩
theorem Tryz.give25_ok:GMemoOk Tryz.prog Tryz.give25:={
 enters:=fun args w=>Tryz.call67 args w
 flatVal:=by decide
 calls:=fun N σ w W hw args args' hm hr=>calls_give (F:=1000000) (told:=fun _ _ _=>none) Tryz.fits Tryz.mixed Tryz.told0 (n:=99) (k:=12) (ds:=Tryz.give25.ds) (by rfl) (by decide) (by decide +kernel) hw hm hr }
def Tryz.give26:GMemo:=⟨67,12,[.agg [.sl 3 3 [zi 0,zi 0,zi 0,zi 2,zi 0,zi 4,zi 1,zi 1,zi 0],.sl 3 3 [zi 0,zi 1,zi 1,.sl 1 1 [zi 1],zi 1,zi 2,zi 2,.sl 1 1 [zi 6],zi 0,zi 2,zi 1,.sl 1 1 [zi 8]],.sl 3 3 [zi 1,zi 2,zi 3]],zi 6,zi 4],.bool true⟩
theorem Tryz.give26_ok:GMemoOk Tryz.prog Tryz.give26:={
 enters:=fun args w=>Tryz.call67 args w
 flatVal:=by decide
 calls:=fun N σ w W hw args args' hm hr=>calls_give (F:=1000000) (told:=fun _ _ _=>none) Tryz.fits Tryz.mixed Tryz.told0 (n:=99) (k:=12) (ds:=Tryz.give26.ds) (by rfl) (by decide) (by decide +kernel) hw hm hr }
def Tryz.give27:GMemo:=⟨67,12,[.agg [.sl 3 3 [zi 0,zi 0,zi 0,zi 2,zi 0,zi 4,zi 1,zi 1,zi 0],.sl 3 3 [zi 0,zi 1,zi 1,.sl 1 1 [zi 1],zi 1,zi 2,zi 2,.sl 1 1 [zi 6],zi 0,zi 2,zi 1,.sl 1 1 [zi 8]],.sl 3 3 [zi 1,zi 2,zi 3]],zi 6,zi 6],.bool true⟩
theorem Tryz.give27_ok:GMemoOk Tryz.prog Tryz.give27:={
 enters:=fun args w=>Tryz.call67 args w
 flatVal:=by decide
 calls:=fun N σ w W hw args args' hm hr=>calls_give (F:=1000000) (told:=fun _ _ _=>none) Tryz.fits Tryz.mixed Tryz.told0 (n:=99) (k:=12) (ds:=Tryz.give27.ds) (by rfl) (by decide) (by decide +kernel) hw hm hr }
def Tryz.give28:GMemo:=⟨67,12,[.agg [.sl 3 3 [zi 0,zi 0,zi 0,zi 2,zi 0,zi 4,zi 1,zi 1,zi 0],.sl 3 3 [zi 0,zi 1,zi 1,.sl 1 1 [zi 1],zi 1,zi 2,zi 2,.sl 1 1 [zi 6],zi 0,zi 2,zi 1,.sl 1 1 [zi 8]],.sl 3 3 [zi 1,zi 2,zi 3]],zi 7,zi 2],.bool true⟩
theorem Tryz.give28_ok:GMemoOk Tryz.prog Tryz.give28:={
 enters:=fun args w=>Tryz.call67 args w
 flatVal:=by decide
 calls:=fun N σ w W hw args args' hm hr=>calls_give (F:=1000000) (told:=fun _ _ _=>none) Tryz.fits Tryz.mixed Tryz.told0 (n:=99) (k:=12) (ds:=Tryz.give28.ds) (by rfl) (by decide) (by decide +kernel) hw hm hr }
def Tryz.give29:GMemo:=⟨67,12,[.agg [.sl 3 3 [zi 0,zi 0,zi 0,zi 2,zi 0,zi 4,zi 1,zi 1,zi 0],.sl 3 3 [zi 0,zi 1,zi 1,.sl 1 1 [zi 1],zi 1,zi 2,zi 2,.sl 1 1 [zi 6],zi 0,zi 2,zi 1,.sl 1 1 [zi 8]],.sl 3 3 [zi 1,zi 2,zi 3]],zi 7,zi 4],.bool true⟩
theorem Tryz.give29_ok:GMemoOk Tryz.prog Tryz.give29:={
 enters:=fun args w=>Tryz.call67 args w
 flatVal:=by decide
 calls:=fun N σ w W hw args args' hm hr=>calls_give (F:=1000000) (told:=fun _ _ _=>none) Tryz.fits Tryz.mixed Tryz.told0 (n:=99) (k:=12) (ds:=Tryz.give29.ds) (by rfl) (by decide) (by decide +kernel) hw hm hr }
def Tryz.give30:GMemo:=⟨67,12,[.agg [.sl 3 3 [zi 0,zi 0,zi 0,zi 2,zi 0,zi 4,zi 1,zi 1,zi 0],.sl 3 3 [zi 0,zi 1,zi 1,.sl 1 1 [zi 1],zi 1,zi 2,zi 2,.sl 1 1 [zi 6],zi 0,zi 2,zi 1,.sl 1 1 [zi 8]],.sl 3 3 [zi 1,zi 2,zi 3]],zi 7,zi 6],.bool true⟩
theorem Tryz.give30_ok:GMemoOk Tryz.prog Tryz.give30:={
 enters:=fun args w=>Tryz.call67 args w
 flatVal:=by decide
 calls:=fun N σ w W hw args args' hm hr=>calls_give (F:=1000000) (told:=fun _ _ _=>none) Tryz.fits Tryz.mixed Tryz.told0 (n:=99) (k:=12) (ds:=Tryz.give30.ds) (by rfl) (by decide) (by decide +kernel) hw hm hr }
def Tryz.give31:GMemo:=⟨103,12,[.agg [.sl 3 3 [zi 0,zi 0,zi 0,zi 2,zi 0,zi 4,zi 1,zi 1,zi 0],.sl 3 3 [zi 0,zi 1,zi 1,.sl 1 1 [zi 1],zi 1,zi 2,zi 2,.sl 1 1 [zi 6],zi 0,zi 2,zi 1,.sl 1 1 [zi 8]],.sl 3 3 [zi 1,zi 2,zi 3]],.sl 2 3 [zi 5,zi 1,zi 7,zi 1,zi 0,zi 1,zi 10,zi 3,zi 6,zi 2,zi 7,zi 2,zi 1,zi 2,zi 0,zi 0,zi 8,zi 3,zi 7,zi 0,zi 0,zi 1,zi 10,zi 0]],.bool true⟩
theorem Tryz.give31_ok:GMemoOk Tryz.prog Tryz.give31:={
 enters:=fun args w=>Tryz.call103 args w
 flatVal:=by decide
 calls:=fun N σ w W hw args args' hm hr=>calls_give (F:=1000000) (told:=fun _ _ _=>none) Tryz.fits Tryz.mixed Tryz.told0 (n:=99) (k:=12) (ds:=Tryz.give31.ds) (by rfl) (by decide) (by decide +kernel) hw hm hr }
def Tryz.give32:GMemo:=⟨111,12,[.agg [.sl 3 3 [zi 0,zi 0,zi 0,zi 2,zi 0,zi 4,zi 1,zi 1,zi 0],.sl 3 3 [zi 0,zi 1,zi 1,.sl 1 1 [zi 1],zi 1,zi 2,zi 2,.sl 1 1 [zi 6],zi 0,zi 2,zi 1,.sl 1 1 [zi 8]],.sl 3 3 [zi 1,zi 2,zi 3],zi 3,zi 1],.agg [zi 0,zi 1,zi 1,.sl 1 1 [zi 1]]],.bool true⟩
theorem Tryz.give32_ok:GMemoOk Tryz.prog Tryz.give32:={
 enters:=fun args w=>Tryz.call111 args w
 flatVal:=by decide
 calls:=fun N σ w W hw args args' hm hr=>calls_give (F:=1000000) (told:=fun _ _ _=>none) Tryz.fits Tryz.mixed Tryz.told0 (n:=99) (k:=12) (ds:=Tryz.give32.ds) (by rfl) (by decide) (by decide +kernel) hw hm hr }
def Tryz.give33:GMemo:=⟨111,12,[.agg [.sl 3 3 [zi 0,zi 0,zi 0,zi 2,zi 0,zi 4,zi 1,zi 1,zi 0],.sl 3 3 [zi 0,zi 1,zi 1,.sl 1 1 [zi 1],zi 1,zi 2,zi 2,.sl 1 1 [zi 6],zi 0,zi 2,zi 1,.sl 1 1 [zi 8]],.sl 3 3 [zi 1,zi 2,zi 3],zi 3,zi 1],.agg [zi 0,zi 2,zi 1,.sl 1 1 [zi 8]]],.bool false⟩
theorem Tryz.give33_ok:GMemoOk Tryz.prog Tryz.give33:={
 enters:=fun args w=>Tryz.call111 args w
 flatVal:=by decide
 calls:=fun N σ w W hw args args' hm hr=>calls_give (F:=1000000) (told:=fun _ _ _=>none) Tryz.fits Tryz.mixed Tryz.told0 (n:=99) (k:=12) (ds:=Tryz.give33.ds) (by rfl) (by decide) (by decide +kernel) hw hm hr }
def Tryz.give34:GMemo:=⟨111,12,[.agg [.sl 3 3 [zi 0,zi 0,zi 0,zi 2,zi 0,zi 4,zi 1,zi 1,zi 0],.sl 3 3 [zi 0,zi 1,zi 1,.sl 1 1 [zi 1],zi 1,zi 2,zi 2,.sl 1 1 [zi 6],zi 0,zi 2,zi 1,.sl 1 1 [zi 8]],.sl 3 3 [zi 1,zi 2,zi 3],zi 3,zi 3],.agg [zi 1,zi 2,zi 2,.sl 1 1 [zi 6]]],.bool true⟩
theorem Tryz.give34_ok:GMemoOk Tryz.prog Tryz.give34:={
 enters:=fun args w=>Tryz.call111 args w
 flatVal:=by decide
 calls:=fun N σ w W hw args args' hm hr=>calls_give (F:=1000000) (told:=fun _ _ _=>none) Tryz.fits Tryz.mixed Tryz.told0 (n:=99) (k:=12) (ds:=Tryz.give34.ds) (by rfl) (by decide) (by decide +kernel) hw hm hr }
def Tryz.gives:List GMemo:=[Tryz.give0,Tryz.give1,Tryz.give2,Tryz.give3,Tryz.give4,Tryz.give5,Tryz.give6,Tryz.give7,Tryz.give8,Tryz.give9,Tryz.give10,Tryz.give11,Tryz.give12,Tryz.give13,Tryz.give14,Tryz.give15,Tryz.give16,Tryz.give17,Tryz.give18,Tryz.give19,Tryz.give20,Tryz.give21,Tryz.give22,Tryz.give23,Tryz.give24,Tryz.give25,Tryz.give26,Tryz.give27,Tryz.give28,Tryz.give29,Tryz.give30,Tryz.give31,Tryz.give32,Tryz.give33,Tryz.give34]
theorem Tryz.gives_ok:GMemosOk Tryz.prog Tryz.gives:=.cons Tryz.give0_ok (.cons Tryz.give1_ok (.cons Tryz.give2_ok (.cons Tryz.give3_ok (.cons Tryz.give4_ok (.cons Tryz.give5_ok (.cons Tryz.give6_ok (.cons Tryz.give7_ok (.cons Tryz.give8_ok (.cons Tryz.give9_ok (.cons Tryz.give10_ok (.cons Tryz.give11_ok (.cons Tryz.give12_ok (.cons Tryz.give13_ok (.cons Tryz.give14_ok (.cons Tryz.give15_ok (.cons Tryz.give16_ok (.cons Tryz.give17_ok (.cons Tryz.give18_ok (.cons Tryz.give19_ok (.cons Tryz.give20_ok (.cons Tryz.give21_ok (.cons Tryz.give22_ok (.cons Tryz.give23_ok (.cons Tryz.give24_ok (.cons Tryz.give25_ok (.cons Tryz.give26_ok (.cons Tryz.give27_ok (.cons Tryz.give28_ok (.cons Tryz.give29_ok (.cons Tryz.give30_ok (.cons Tryz.give31_ok (.cons Tryz.give32_ok (.cons Tryz.give33_ok (.cons Tryz.give34_ok (.nil)))))))))))))))))))))))))))))))))))
def Tryz.toldG:ToldF:=toldGive Tryz.gives (fun _ _ _=>none)
theorem Tryz.toldG_ok (N:Nat):ToldOk Tryz.prog N Tryz.toldG:=toldGive_ok Tryz.gives_ok Tryz.told0 N
theorem Tryz.works (W:World):Calls Tryz.prog 21 #[] W fun e W'=>e=.returned (.bool true)/\BelowD W.heap.size W W' :=
 calls_true (F:=1000000) Tryz.fits Tryz.mixed Tryz.toldG_ok (n:=99) (by decide +kernel) (by decide +kernel) W
def Tryz.T0:ToldF:=toldTrue 21 fun _ _ _=>none
theorem Tryz.toldT0 (N:Nat):ToldOk Tryz.prog N Tryz.T0:=toldTrue_ok (fun args w=>Tryz.call21 args w) Tryz.works (fun N=>fun f args w w1 v h=>by cases h) N
end Go.Proofs

namespace Go.Proofs
open Go.Shelf
def Tryz.sortL_ren:Go.Shelf.Ren:=⟨fun|6=>94|15=>116|14=>115|28=>140|29=>141|20=>132|21=>133|22=>134|23=>135|24=>136|25=>137|26=>138|27=>139|46=>154|47=>155|48=>156|49=>157|50=>158|57=>164|n=>n,fun|22=>135|24=>77|25=>139|3=>3|39=>150|0=>0|53=>167|55=>169|4=>4|46=>160|45=>159|50=>164|5=>5|9=>9|66=>182|70=>186|76=>191|77=>192|n=>n,fun|n=>n⟩
theorem Tryz.sortL:Go.Proofs.SlLaysF.n6 Tryz.prog Tryz.sortL_ren:={
 mixed:=by kernel_rfl
 f6:=⟨Tryz.f94.name,by decide,Tryz.func94.trans (congrArg some (by kernel_rfl))⟩
 f14:=⟨Tryz.f115.name,by decide,Tryz.func115.trans (congrArg some (by kernel_rfl))⟩
 f15:=Tryz.func116.trans (congrArg some (by kernel_rfl))
 f20:=⟨Tryz.f132.name,by decide,Tryz.func132.trans (congrArg some (by kernel_rfl))⟩
 f21:=⟨Tryz.f133.name,by decide,Tryz.func133.trans (congrArg some (by kernel_rfl))⟩
 f22:=⟨Tryz.f134.name,by decide,Tryz.func134.trans (congrArg some (by kernel_rfl))⟩
 f23:=⟨Tryz.f135.name,by decide,Tryz.func135.trans (congrArg some (by kernel_rfl))⟩
 f24:=⟨Tryz.f136.name,by decide,Tryz.func136.trans (congrArg some (by kernel_rfl))⟩
 f25:=⟨Tryz.f137.name,by decide,Tryz.func137.trans (congrArg some (by kernel_rfl))⟩
 f26:=⟨Tryz.f138.name,by decide,Tryz.func138.trans (congrArg some (by kernel_rfl))⟩
 f27:=⟨Tryz.f139.name,by decide,Tryz.func139.trans (congrArg some (by kernel_rfl))⟩
 f28:=Tryz.func140.trans (congrArg some (by kernel_rfl))
 f29:=Tryz.func141.trans (congrArg some (by kernel_rfl))
 f46:=⟨Tryz.f154.name,by decide,Tryz.func154.trans (congrArg some (by kernel_rfl))⟩
 f47:=Tryz.func155.trans (congrArg some (by kernel_rfl))
 f48:=Tryz.func156.trans (congrArg some (by kernel_rfl))
 f49:=⟨Tryz.f157.name,by decide,Tryz.func157.trans (congrArg some (by kernel_rfl))⟩
 f50:=⟨Tryz.f158.name,by decide,Tryz.func158.trans (congrArg some (by kernel_rfl))⟩
 f57:=⟨Tryz.f164.name,by decide,Tryz.func164.trans (congrArg some (by kernel_rfl))⟩
 t0:=Tryz.underlying0
 a0:=Tryz.isAgg0
 z0:=Tryz.sizeOf0
 v0:=Tryz.zeroValue0
 t3:=Tryz.underlying3
 a3:=Tryz.isAgg3
 z3:=Tryz.sizeOf3
 v3:=Tryz.zeroValue3
 t4:=Tryz.underlying4
 a4:=Tryz.isAgg4
 z4:=Tryz.sizeOf4
 v4:=Tryz.zeroValue4
 t5:=Tryz.underlying5
 a5:=Tryz.isAgg5
 z5:=Tryz.sizeOf5
 v5:=Tryz.zeroValue5
 t9:=Tryz.underlying9
 a9:=Tryz.isAgg9
 z9:=Tryz.sizeOf9
 v9:=Tryz.zeroValue9
 t22:=Tryz.underlying135
 a22:=Tryz.isAgg135
 z22:=Tryz.sizeOf135
 v22:=Tryz.zeroValue135
 a24:=Tryz.isAgg77
 z24:=Tryz.sizeOf77
 t25:=Tryz.underlying139
 a25:=Tryz.isAgg139
 z25:=Tryz.sizeOf139
 v25:=Tryz.zeroValue139
 t39:=Tryz.underlying150
 a39:=Tryz.isAgg150
 z39:=Tryz.sizeOf150
 v39:=Tryz.zeroValue150
 t45:=Tryz.underlying159
 a45:=Tryz.isAgg159
 z45:=Tryz.sizeOf159
 v45:=Tryz.zeroValue159
 t46:=Tryz.underlying160
 a46:=Tryz.isAgg160
 z46:=Tryz.sizeOf160
 v46:=Tryz.zeroValue160
 t50:=Tryz.underlying164
 a50:=Tryz.isAgg164
 z50:=Tryz.sizeOf164
 v50:=Tryz.zeroValue164
 t53:=Tryz.underlying167
 a53:=Tryz.isAgg167
 z53:=Tryz.sizeOf167
 v53:=Tryz.zeroValue167
 t55:=Tryz.underlying169
 a55:=Tryz.isAgg169
 z55:=Tryz.sizeOf169
 v55:=Tryz.zeroValue169
 t66:=Tryz.underlying182
 a66:=Tryz.isAgg182
 z66:=Tryz.sizeOf182
 v66:=Tryz.zeroValue182
 t70:=Tryz.underlying186
 a70:=Tryz.isAgg186
 z70:=Tryz.sizeOf186
 v70:=Tryz.zeroValue186
 t76:=Tryz.underlying191
 a76:=Tryz.isAgg191
 z76:=Tryz.sizeOf191
 v76:=Tryz.zeroValue191
 t77:=Tryz.underlying192
 a77:=Tryz.isAgg192
 z77:=Tryz.sizeOf192
 v77:=Tryz.zeroValue192 }
end Go.Proofs
namespace Go.Proofs
open Go Go.Shelf Go.RowKit Go.Lib Go.Sort Go.Sim
theorem Tryz.lens:∀ x,x < Tryz.lenTab.n->isVal (xcall (prg Tryz.prog) (xsOf (prg Tryz.prog)) (fun _ _ _=>none) 1000000 100 (.fn (.func 116) #[]) [.int .u64 (x:Int)] .empty) (Tryz.lenTab.g x)=true:=by decide +kernel
theorem Tryz.pops:∀ x,x < Tryz.popTab.n->isVal (xcall (prg Tryz.prog) (xsOf (prg Tryz.prog)) (fun _ _ _=>none) 1000000 100 (.fn (.func 98) #[]) [.int .i64 (x:Int)] .empty) (Tryz.popTab.g x)=true:=by decide +kernel
theorem Tryz.lenOk:TabOk Tryz.prog Tryz.lenTab:={
 enters:=fun args w=>Tryz.call116 args w
 flatVal:=fun _ _=>rfl
 calls:=fun x hx W=>tab_calls (F:=1000000) (n:=99) Tryz.fits Tryz.mixed Tryz.told0 (fun _=>rfl) (fun _ _=>rfl) Tryz.lens x hx W }
theorem Tryz.popOk:TabOk Tryz.prog Tryz.popTab:={
 enters:=fun args w=>Tryz.call98 args w
 flatVal:=fun _ _=>rfl
 calls:=fun x hx W=>tab_calls (F:=1000000) (n:=99) Tryz.fits Tryz.mixed Tryz.told0 (fun _=>rfl) (fun _ _=>rfl) Tryz.pops x hx W }
theorem Tryz.toldT0c (N:Nat):ToldOk Tryz.prog N Tryz.T0c:=toldTab_ok Tryz.lenOk (fun N=>toldTab_ok Tryz.popOk Tryz.toldT0 N) N
def cfV (x y:Fin 64):Int:=cmpN x.val y.val
theorem ltV (x y:Fin 64):ltOf cfV x y=decide (popN x.val < popN y.val \/ (popN x.val=popN y.val/\x.val < y.val)):=by
 unfold ltOf cfV cmpN
 rw[decide_eq_decide]
 repeat' split
 all_goals omega
theorem swoV:SWO (ltOf cfV) where
 irrefl x:=by rw[ltV];simp
 trans x y z h1 h2:=by rw[ltV]at *;simp only[decide_eq_true_eq]at *;omega
 ntrans x y z h1 h2:=by rw[ltV]at *;simp only[decide_eq_false_iff_not]at *;omega
theorem totV (x y:Fin 64) (h1:ltOf cfV x y=false) (h2:ltOf cfV y x=false):x=y:=by
 rw[ltV]at *
 simp only[decide_eq_false_iff_not]at *
 exact Fin.ext (by omega)
theorem fresh_empty:Fresh AW.empty:=⟨fun b _=>by simp[AW.empty,AW.blk,Trie.get_leaf],fun r _=>by simp[AW.empty,AW.family,Trie.get_leaf]⟩
theorem closureV (x y:Fin 64) (W:World):Calls Tryz.prog 95 #[encF 63 x,encF 63 y] W fun e w'=>e=.returned (.int .i64 (cfV x y))/\∃ q os,w'=grow (W.drewN q) os:=by
 have h:=calls_flat Tryz.fits Tryz.mixed Tryz.toldT0c (f:=95) (l:=[encF 63 x,encF 63 y]) (v:=.int .i64 (cfV x y)) rfl rfl rfl (cmpSets_ok x.val y.val x.isLt y.isLt .empty fresh_empty) W
 exact h.mono fun e w' ⟨he,hb⟩=>⟨he,grown_of hb⟩
theorem cmpLaysV (blk off size:Nat) (w:World):CmpLays1 Tryz.prog 95 #[] (encF 63) cfV blk off size w:=fun _ _ _ _ x y=>closureV x y _
theorem Tryz.cmpOk:CmpOk2 Tryz.prog Tryz.cmpIds:={
 enters:=fun args W=>Tryz.call94 args W
 tiny:=fun p c W=>by
  have h:=AnyF.slices_SortFunc_none (P:=Tryz.prog) (ρ:=Tryz.sortL_ren) { Tryz.sortL with } p c (.func (.func 95) #[] #[]) W
  exact h
 sorts:=fun blk off c d W h1 h2 hH hblk=>by
  have hS:=Any.slices_SortFunc_total Tryz.sortL (encF 63) (fun _=>rfl) cfV swoV 95 #[] blk off c d W (fun args W=>Tryz.call95 args W) (cmpLaysV blk off d.size W) hH hblk (Nat.lt_of_le_of_lt h2 (by decide)) totV
  refine hS.mono ?_
  rintro e w' ⟨he,n,os,hw⟩
  refine⟨he,n,os,?_⟩
  rw[hw]
  unfold sortWorld
  rfl }
theorem Tryz.toldT1 (N:Nat):ToldOk Tryz.prog N Tryz.T1:=toldSets_ok Tryz.cmpOk Tryz.toldT0c N
end Go.Proofs

namespace Go.Proofs
open Go Go.RowKit Go.Sim Go.ChangeShapes Go.WideShapes Go.ChangeAt
set_option maxRecDepth 100000
theorem Tryz.own:ownKnob Tryz.prog.godebug=none:=by kernel_rfl
theorem Tryz.laidOut:laidOutB Tryz.prog=true:=by kernel_rfl
theorem Tryz.und4:Tryz.prog.underlying 4=some .bool:=by kernel_rfl
end Go.Proofs
