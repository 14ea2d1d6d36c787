/- This program: its code, contracts, numbers, part 1. -/
import Derived.Test.YtnbfkakjdifcpaaGreatNc
import Derived.Test.YtnbfkakjdifcpaaGreatChecked
import Derived.Test.YtnbfkakjdifcpaaGreatMc
import Derived.Lib.ReflectliteSwap
import Derived.Sort.LotA
import Derived.Sort.Grow
import Derived.Test.YtnbfkakjdifcpaaGreatSh
import Derived.Test.YtnbfkakjdifcpaaGreatSf
import Derived.Test.YtnbfkakjdifcpaaGreatNa
set_option linter.unusedVariables false
set_option linter.unusedSimpArgs false
namespace Go.Proofs
open Go Go.RowKit Go.Sim
def zv (n:Tmp):Operand:=.tmp n
def zk (n:Int):Operand:=.const (.int .i64 n)
def zo (d:Tmp) (x:Op) (y:TypeId):SOp:=⟨⟨some d,x, y, "",⟨[]⟩,none⟩,none,false⟩
def zt (d:Tmp) (x:Op) (y:TypeId):SOp:=⟨⟨some d,x, y, "",⟨[]⟩,none⟩,none,true⟩
def zon (x:Op) (y:TypeId):SOp:=⟨⟨none,x, y, "",⟨[]⟩,none⟩,none,false⟩
def ztn (x:Op) (y:TypeId):SOp:=⟨⟨none,x, y, "",⟨[]⟩,none⟩,none,true⟩
def zg (d:Tmp) (x:Op) (y:TypeId) (n:Tmp) (b:Bool):SOp:=⟨⟨some d,x, y, "",⟨[]⟩,none⟩,some (some n,b),false⟩
def zh (d:Tmp) (x:Op) (y:TypeId) (n:Tmp) (b:Bool):SOp:=⟨⟨some d,x, y, "",⟨[]⟩,none⟩,some (some n,b),true⟩
def zgn (x:Op) (y:TypeId) (n:Tmp) (b:Bool):SOp:=⟨⟨none,x, y, "",⟨[]⟩,none⟩,some (some n,b),false⟩
def zhn (x:Op) (y:TypeId) (n:Tmp) (b:Bool):SOp:=⟨⟨none,x, y, "",⟨[]⟩,none⟩,some (some n,b),true⟩
set_option maxRecDepth 100000
theorem Tryz.ty3:(prg Tryz.prog).ty 3=some ⟨false,(.int .i64),1,8,.int .i64 0⟩:=by kernel_rfl
attribute [go_sem] Tryz.ty3
theorem Tryz.ty4:(prg Tryz.prog).ty 4=some ⟨false,.bool,1,1,.bool false⟩:=by kernel_rfl
attribute [go_sem] Tryz.ty4
theorem Tryz.ty22:(prg Tryz.prog).ty 22=some ⟨false,(.slice 73),1,24,.slice none 0 0⟩:=by kernel_rfl
attribute [go_sem] Tryz.ty22
theorem Tryz.ty23:(prg Tryz.prog).ty 23=some ⟨false,(.slice 71),1,24,.slice none 0 0⟩:=by kernel_rfl
attribute [go_sem] Tryz.ty23
theorem Tryz.ty24:(prg Tryz.prog).ty 24=some ⟨false,(.slice 3),1,24,.slice none 0 0⟩:=by kernel_rfl
attribute [go_sem] Tryz.ty24
theorem Tryz.ty26:(prg Tryz.prog).ty 26=some ⟨true,(.struct #[⟨ "Rooms",22,0,false, "", "",0⟩, ⟨ "Gates",23,1,false, "", "",24⟩, ⟨ "Staff",24,2,false, "", "",48⟩]),3,72,.agg #[.slice none 0 0,.slice none 0 0,.slice none 0 0]⟩:=by kernel_rfl
attribute [go_sem] Tryz.ty26
theorem Tryz.ty78:(prg Tryz.prog).ty 78=some ⟨false,(.int .i64),1,8,.int .i64 0⟩:=by kernel_rfl
attribute [go_sem] Tryz.ty78
theorem Tryz.ty73:(prg Tryz.prog).ty 73=some ⟨true,(.struct #[⟨ "Hold",3,0,false, "", "",0⟩, ⟨ "Climate",3,1,false, "", "",8⟩, ⟨ "Keys",3,2,false, "", "",16⟩]),3,24,.agg #[.int .i64 0,.int .i64 0,.int .i64 0]⟩:=by kernel_rfl
attribute [go_sem] Tryz.ty73
theorem Tryz.ty71:(prg Tryz.prog).ty 71=some ⟨true,(.struct #[⟨ "A",3,0,false, "", "",0⟩, ⟨ "B",3,1,false, "", "",8⟩, ⟨ "Need",3,2,false, "", "",16⟩, ⟨ "Ways",24,3,false, "", "",24⟩]),4,48,.agg #[.int .i64 0,.int .i64 0,.int .i64 0,.slice none 0 0]⟩:=by kernel_rfl
attribute [go_sem] Tryz.ty71
theorem Tryz.ty77:(prg Tryz.prog).ty 77=some ⟨false,(.int .i64),1,8,.int .i64 0⟩:=by kernel_rfl
attribute [go_sem] Tryz.ty77
theorem Tryz.ty155:(prg Tryz.prog).ty 155=some ⟨false,(.int .i64),1,8,.int .i64 0⟩:=by kernel_rfl
attribute [go_sem] Tryz.ty155
theorem Tryz.ty80:(prg Tryz.prog).ty 80=some ⟨true,(.struct #[⟨ "Strong",26,0,true, "", "",0⟩, ⟨ "group",77,3,false, "", "lombard/vault",72⟩, ⟨ "reached",78,4,false, "", "lombard/vault",80⟩]),5,88,.agg #[.slice none 0 0,.slice none 0 0,.slice none 0 0,.int .i64 0,.int .i64 0]⟩:=by kernel_rfl
attribute [go_sem] Tryz.ty80
theorem Tryz.ia22 (t:Tmps) (w:AW) (x y:Operand):fast (prg Tryz.prog) t w (.indexAddr 22 x y)=indexV 3 (ev t x) (ev t y):=fast_indexAddr Tryz.ty22 Tryz.ty73
attribute [go_sem] Tryz.ia22
theorem Tryz.ln22 (t:Tmps) (w:AW) (x:Operand):fast (prg Tryz.prog) t w (.call ⟨.builtin .len,⟨[x]⟩,⟨[22]⟩⟩)=lenV (ev t x):=fast_len Tryz.ty22
attribute [go_sem] Tryz.ln22
theorem Tryz.ia23 (t:Tmps) (w:AW) (x y:Operand):fast (prg Tryz.prog) t w (.indexAddr 23 x y)=indexV 4 (ev t x) (ev t y):=fast_indexAddr Tryz.ty23 Tryz.ty71
attribute [go_sem] Tryz.ia23
theorem Tryz.ln23 (t:Tmps) (w:AW) (x:Operand):fast (prg Tryz.prog) t w (.call ⟨.builtin .len,⟨[x]⟩,⟨[23]⟩⟩)=lenV (ev t x):=fast_len Tryz.ty23
attribute [go_sem] Tryz.ln23
theorem Tryz.ia24 (t:Tmps) (w:AW) (x y:Operand):fast (prg Tryz.prog) t w (.indexAddr 24 x y)=indexV 1 (ev t x) (ev t y):=fast_indexAddr Tryz.ty24 Tryz.ty3
attribute [go_sem] Tryz.ia24
theorem Tryz.ln24 (t:Tmps) (w:AW) (x:Operand):fast (prg Tryz.prog) t w (.call ⟨.builtin .len,⟨[x]⟩,⟨[24]⟩⟩)=lenV (ev t x):=fast_len Tryz.ty24
attribute [go_sem] Tryz.ln24
theorem Tryz.fa26x0 (t:Tmps) (w:AW) (x:Operand):fast (prg Tryz.prog) t w (.fieldAddr 26 x 0)=fieldOff (ev t x) 0:=fast_fieldAddr (fd := ⟨ "Rooms",22,0,false, "", "",0⟩) Tryz.ty26 rfl Tryz.ty22 rfl
attribute [go_sem] Tryz.fa26x0
theorem Tryz.fa26x1 (t:Tmps) (w:AW) (x:Operand):fast (prg Tryz.prog) t w (.fieldAddr 26 x 1)=fieldOff (ev t x) 1:=fast_fieldAddr (fd := ⟨ "Gates",23,1,false, "", "",24⟩) Tryz.ty26 rfl Tryz.ty23 rfl
attribute [go_sem] Tryz.fa26x1
theorem Tryz.fa26x2 (t:Tmps) (w:AW) (x:Operand):fast (prg Tryz.prog) t w (.fieldAddr 26 x 2)=fieldOff (ev t x) 2:=fast_fieldAddr (fd := ⟨ "Staff",24,2,false, "", "",48⟩) Tryz.ty26 rfl Tryz.ty24 rfl
attribute [go_sem] Tryz.fa26x2
theorem Tryz.fa73x0 (t:Tmps) (w:AW) (x:Operand):fast (prg Tryz.prog) t w (.fieldAddr 73 x 0)=fieldOff (ev t x) 0:=fast_fieldAddr (fd := ⟨ "Hold",3,0,false, "", "",0⟩) Tryz.ty73 rfl Tryz.ty3 rfl
attribute [go_sem] Tryz.fa73x0
theorem Tryz.fa73x1 (t:Tmps) (w:AW) (x:Operand):fast (prg Tryz.prog) t w (.fieldAddr 73 x 1)=fieldOff (ev t x) 1:=fast_fieldAddr (fd := ⟨ "Climate",3,1,false, "", "",8⟩) Tryz.ty73 rfl Tryz.ty3 rfl
attribute [go_sem] Tryz.fa73x1
theorem Tryz.fa73x2 (t:Tmps) (w:AW) (x:Operand):fast (prg Tryz.prog) t w (.fieldAddr 73 x 2)=fieldOff (ev t x) 2:=fast_fieldAddr (fd := ⟨ "Keys",3,2,false, "", "",16⟩) Tryz.ty73 rfl Tryz.ty3 rfl
attribute [go_sem] Tryz.fa73x2
theorem Tryz.fa71x0 (t:Tmps) (w:AW) (x:Operand):fast (prg Tryz.prog) t w (.fieldAddr 71 x 0)=fieldOff (ev t x) 0:=fast_fieldAddr (fd := ⟨ "A",3,0,false, "", "",0⟩) Tryz.ty71 rfl Tryz.ty3 rfl
attribute [go_sem] Tryz.fa71x0
theorem Tryz.fa71x1 (t:Tmps) (w:AW) (x:Operand):fast (prg Tryz.prog) t w (.fieldAddr 71 x 1)=fieldOff (ev t x) 1:=fast_fieldAddr (fd := ⟨ "B",3,1,false, "", "",8⟩) Tryz.ty71 rfl Tryz.ty3 rfl
attribute [go_sem] Tryz.fa71x1
theorem Tryz.fa71x2 (t:Tmps) (w:AW) (x:Operand):fast (prg Tryz.prog) t w (.fieldAddr 71 x 2)=fieldOff (ev t x) 2:=fast_fieldAddr (fd := ⟨ "Need",3,2,false, "", "",16⟩) Tryz.ty71 rfl Tryz.ty3 rfl
attribute [go_sem] Tryz.fa71x2
theorem Tryz.fa71x3 (t:Tmps) (w:AW) (x:Operand):fast (prg Tryz.prog) t w (.fieldAddr 71 x 3)=fieldOff (ev t x) 3:=fast_fieldAddr (fd := ⟨ "Ways",24,3,false, "", "",24⟩) Tryz.ty71 rfl Tryz.ty24 rfl
attribute [go_sem] Tryz.fa71x3
theorem Tryz.bd80 (t:Tmps) (w:AW) (l:List (Nat × Operand)):fast (prg Tryz.prog) t w (.build 80 ⟨l⟩)=bldQ [(0,3),(3,1),(4,1)] [.slice none 0 0,.slice none 0 0,.slice none 0 0,.int .i64 0,.int .i64 0] (l.map fun p=>(p.1,ev t p.2)):=fast_build (zs:=[.slice none 0 0,.slice none 0 0,.slice none 0 0,.int .i64 0,.int .i64 0]) Tryz.ty80 (by kernel_rfl)
attribute [go_sem] Tryz.bd80
theorem Tryz.fa80x0 (t:Tmps) (w:AW) (x:Operand):fast (prg Tryz.prog) t w (.fieldAddr 80 x 0)=fieldOff (ev t x) 0:=fast_fieldAddr (fd := ⟨ "Strong",26,0,true, "", "",0⟩) Tryz.ty80 rfl Tryz.ty26 rfl
attribute [go_sem] Tryz.fa80x0
theorem Tryz.fa80x1 (t:Tmps) (w:AW) (x:Operand):fast (prg Tryz.prog) t w (.fieldAddr 80 x 1)=fieldOff (ev t x) 3:=fast_fieldAddr (fd := ⟨ "group",77,3,false, "", "lombard/vault",72⟩) Tryz.ty80 rfl Tryz.ty77 rfl
attribute [go_sem] Tryz.fa80x1
theorem Tryz.fa80x2 (t:Tmps) (w:AW) (x:Operand):fast (prg Tryz.prog) t w (.fieldAddr 80 x 2)=fieldOff (ev t x) 4:=fast_fieldAddr (fd := ⟨ "reached",78,4,false, "", "lombard/vault",80⟩) Tryz.ty80 rfl Tryz.ty78 rfl
attribute [go_sem] Tryz.fa80x2
end Go.Proofs

namespace Go.Sim
open Go Go.RowKit
variable {P:Program} {N F:Nat}
def isVal (r:CR) (v:Value):Bool :=
 match r with
 | .ret u _=>same 12 v u
 | _=>false
theorem calls_val (hP:Fit P) (hfol:P.follows .mixedOrders=true) {told:ToldF} (ht:∀ N,ToldOk P N told) {n:Nat} {f:FuncId} {l:List Value} {v:Value} (hno:(told f (l.toArray++#[]) .empty).isNone=true) (hl:flat.flats 6 l=true) (hv:flat 6 v=true)
    (h:isVal (xcall (prg P) (xsOf (prg P)) told F (n+1) (.fn (.func f) #[]) l .empty) v=true) (W:World) :
    Calls P f l.toArray W fun e W'=>e=.returned v/\BelowD W.heap.size W W':=by
 rw[xcall_eq hP.funcs]at h
 unfold isVal at h
 split at h
 case h_2=>cases h
 rename_i u w1 hr
 have hu:=same_eq 12 _ _ h
 subst hu
 simp only[acall]at hr
 rw[Option.isNone_iff_eq_none.mp hno]at hr
 simp only[Array.append_empty]at hr
 intro cs
 have ha:ARel (fun _=>none) l.toArray l.toArray:=ARel.iff.2 (by simpa using flats_self (flat_self 6) hl _)
 obtain⟨σ',v',W',fr,s,hf,hlv,e,r⟩:=enter_leaves hP hfol (call_ok hP hfol (ht W.heap.size) n) (call_pan hP hfol (ht W.heap.size) n) hr cs (WRel.empty W) (args':=l.toArray) ha
 have:=flat_eq 6 v hv σ' v' r
 subst this
 exact⟨.returned v',W',fr,⟨rfl,e.below⟩,s,hf,hlv⟩
end Go.Sim

namespace Go.Sim
open Go Go.RowKit
variable {P:Program} {N F:Nat}
structure Tab where
 f:FuncId
 k:IntKind
 n:Nat
 g:Nat->Value
def tabArg (s:Tab) (l:List Value):Option Nat :=
 match l with
 | [.int k x]=>match same 12 (.int k x) (.int s.k (x.toNat:Int)),Nat.blt x.toNat s.n with
  | true,true=>some x.toNat
  | _,_=>none
 | _=>none
def toldTab (s:Tab) (told:ToldF):ToldF:=fun f args w =>
 match Nat.beq f s.f with
 | true=>match tabArg s args.toList with
  | some x=>some (s.g x,w)
  | none=>none
 | false=>told f args w
structure TabOk (P:Program) (s:Tab):Prop where
 enters:∀ args w,(callFunc s.f args).run P w=.ok (.enter s.f args) w
 flatVal:∀ x,x < s.n->flat 6 (s.g x)=true
 calls:∀ x,x < s.n->∀ W,Calls P s.f #[.int s.k (x:Int)] W fun e W'=>e=.returned (s.g x)/\BelowD W.heap.size W W'
theorem tabArg_is {s:Tab} {l:List Value} {x:Nat} (h:tabArg s l=some x):l=[.int s.k (x:Int)]/\x < s.n:=by
 unfold tabArg at h
 split at h
 · split at h
   . rename_i h1 h2
     injection h with h;subst h
     have:=same_eq 12 _ _ h1
     refine⟨by rw[<- this],?_⟩
     simp only[Nat.blt]at h2
     exact Nat.le_of_ble_eq_true h2
   . cases h
 . cases h
theorem tabArg_at {s:Tab} (hk:s.k=.i64 \/ s.k=.u64) {x:Nat} (h:x < s.n):tabArg s [.int s.k (x:Int)]=some x:=by
 unfold tabArg
 have h1:same 12 (.int s.k (x:Int)) (.int s.k (((x:Int).toNat:Nat):Int))=true:=by
  rw[show (((x:Int).toNat:Nat):Int)=(x:Int)from rfl]
  rcases hk with e|e <;> rw[e] <;> simp[same,intEq_eq]
 have h2:Nat.blt (x:Int).toNat s.n=true:=by simp only[Nat.blt];exact Nat.ble_eq_true_of_le h
 simp only[h1,h2]
 rfl
theorem toldTab_ok {s:Tab} (hs:TabOk P s) {told:ToldF} (ht:∀ N,ToldOk P N told) (N:Nat):ToldOk P N (toldTab s told):=by
 intro f args w w1 v h σ W args0 cap c cs hw ha
 unfold toldTab at h
 split at h
 . rename_i hf
   have hf:=Nat.eq_of_beq_eq_true hf
   subst hf
   split at h
   case h_2=>cases h
   rename_i x hx
   injection h with h;injection h with h1 h2
   subst h1 h2
   obtain⟨hargs,hlt⟩:=tabArg_is hx
   have e1:(args0++cap).toList=args.toList:=flats_rel (flat_eq 6) (by rw[hargs];rfl) σ _ (ARel.iff.1 ha)
   have e2:args0++cap = #[.int s.k (x:Int)]:=Array.ext' (by rw[e1,hargs])
   obtain⟨W',d1,d2⟩:=delivers_calls hs.enters (by rw[e2];exact hs.calls x hlt W) c cs
   exact⟨σ,_,W',d1,hw.aside d2,flat_self 6 _ (hs.flatVal x hlt) σ⟩
 . exact ht N f args w w1 v h σ W args0 cap c cs hw ha
theorem tab_calls (hP:Fit P) (hfol:P.follows .mixedOrders=true) {told:ToldF} (ht:∀ N,ToldOk P N told) {n:Nat} {s:Tab} (hno:∀ x:Nat,(told s.f ([.int s.k (x:Int)].toArray++#[]) .empty).isNone=true) (hv:∀ x,x < s.n->flat 6 (s.g x)=true)
    (h:∀ x,x < s.n->isVal (xcall (prg P) (xsOf (prg P)) told F (n+1) (.fn (.func s.f) #[]) [.int s.k (x:Int)] .empty) (s.g x)=true) (x:Nat) (hx:x < s.n) (W:World) :
    Calls P s.f #[.int s.k (x:Int)] W fun e W'=>e=.returned (s.g x)/\BelowD W.heap.size W W' :=
 calls_val hP hfol ht (hno x) rfl (hv x hx) (h x hx) W
end Go.Sim

namespace Go.Sim
open Go Go.RowKit Go.Extern
variable {P:Program} {N:Nat}
end Go.Sim

namespace Go.Sim
open Go Go.RowKit
variable {P:Program} {N:Nat}
def readInts (w:AW) (b:Nat):Nat->Nat->Option (List Int)
 | _,0=>some []
 | o, n+1=>match w.cell? ⟨b,o,none⟩ with
  | some (.int .i64 z)=>match readInts w b (o+1) n with
   | some l=>some (z :: l)
   | none=>none
  | _=>none
def encInt (z:Int):Value:=.int .i64 z
theorem readInts_len {w:AW} {b:Nat}:∀ {n o:Nat} {l:List Int},readInts w b o n=some l->l.length=n
 | 0,o,l,h=>by simp only[readInts,Option.some.injEq]at h;subst h;rfl
 | n + 1,o,l,h=>by
  simp only[readInts]at h
  split at h
  · split at h
    . rename_i hr
      injection h with h;subst h
      simp[readInts_len hr]
    . cases h
  . cases h
theorem readInts_at {σ:Emb} {w:AW} {W:World} (hw:WRel N σ w W) {b:Nat} {x:Loc} (hb:σ b=some x):∀ {n o:Nat} {l:List Int},readInts w b o n=some l->∀ j (h:j < l.length),W.cell? ⟨x.c,x.s+(o+j),none⟩=some (encInt l[j])
 | 0,o,l,h,j,hj=>by simp only[readInts,Option.some.injEq]at h;subst h;simp at hj
 | n + 1, o,l,h,j,hj=>by
  simp only[readInts]at h
  split at h
  · rename_i z hz
    split at h
    · rename_i r hr
      injection h with h;subst h
      obtain⟨v',e,rv,_⟩:=hw.cell hb hz
      cases rv
      cases j with
      | zero=>exact e
      | succ j =>
       have:=readInts_at hw hb hr j (by simpa using hj)
       rw[show o+(j+1)=o+1+j by omega]
       exact this
    . cases h
  . cases h
theorem putRow_nil (W:World) (c o:Nat):Go.Sort.putRow encInt W c o (#[]:Array Int)=W:=by
 refine Go.Sort.mapBlock_id W c _ fun d e fr h=>?_
 apply Array.ext_getElem?
 intro k
 simp only[Go.Sort.putCells,Array.getElem?_mapIdx]
 have hn:¬ (o≤k/\k < o+(#[]:Array Int).size):=by simp
 simp only[if_neg hn]
 simp
theorem putRow_cons (W:World) (c o:Nat) (z:Int) (l:List Int):Go.Sort.putRow encInt (W.setCell ⟨c,o,none⟩ (encInt z)) c (o+1) l.toArray=Go.Sort.putRow encInt W c o (z :: l).toArray:=by
 rw[Go.Sort.setCell_eq]
 unfold Go.Sort.putRow
 rw[Go.Sort.mapBlock_mapBlock]
 refine Go.Sort.mapBlock_congr W c _ _ fun d e fr h=>?_
 apply Array.ext_getElem?
 intro k
 simp only[Go.Sort.putCells,Array.getElem?_mapIdx,Array.getElem?_setIfInBounds]
 by_cases hk:o=k
 · subst hk
   have hn:¬ (o+1≤o/\o < o+1+l.toArray.size):=by omega
   by_cases hs:o < d.size
   . simp[hs]
     intro h1;omega
   . simp[hs]
 · rw [if_neg hk]
   by_cases hs:k < d.size
   · rw [Array.getElem?_eq_getElem hs]
     simp only[Option.map_some,List.size_toArray,List.length_cons]
     by_cases q:o+1≤k/\k < o+1+l.length
     . rw[if_pos q,if_pos ⟨by omega,by omega⟩]
       have e:k - o=(k - (o+1))+1:=by omega
       rw[e]
       simp
     . rw[if_neg q,if_neg (by omega)]
   . rw[Array.getElem?_eq_none (by omega)];rfl
theorem frozen_setCell (W:World) (a p:Addr) (u:Value):(W.setCell a u).frozen? p=W.frozen? p:=by
 simp only[World.setCell,World.frozen?,Array.getElem?_modify]
 by_cases hk:a.block=p.block
 . simp only[hk,if_true]
   cases W.heap[p.block]? with
   | none=>rfl
   | some o=>cases o <;> rfl
 . simp[hk]
theorem aStores_row {σ:Emb} {b:Nat} {x:Loc} (hb:σ b=some x):∀ {l:List Int} {o:Nat} {w w1:AW} {W:World},WRel N σ w W->aStores b o (l.map encInt) w=some w1 ->
    Ext N σ w W σ w1 (Go.Sort.putRow encInt W x.c (x.s+o) l.toArray)/\∀ j,j < l.length->W.frozen? ⟨x.c,x.s+(o+j),none⟩=false
 | [],o,w,w1,W,hw,h=>by
  simp only[List.map_nil,aStores,Option.some.injEq]at h
  subst h
  exact⟨by rw[putRow_nil];exact .refl hw,fun j hj=>by simp at hj⟩
 | z :: l,o,w,w1,W,hw,h=>by
  simp only[List.map_cons,aStores]at h
  split at h
  case h_2=>cases h
  rename_i w2 h2
  obtain⟨_,_,hf,hx⟩:=hw.store hb (VRel.int .i64 z) h2
  obtain⟨h3,h4⟩:=aStores_row hb hx.rel h
  rw[show x.s+(o+1)=x.s+o+1 by omega]at h3
  rw[show (Value.int .i64 z)=encInt z from rfl,putRow_cons]at h3
  refine⟨hx.trans h3,fun j hj=>?_⟩
  cases j with
  | zero=>exact hf
  | succ j =>
   have:=h4 j (by simpa using hj)
   rw[frozen_setCell]at this
   rw[show o+(j+1)=o+1+j by omega]
   exact this
theorem below_grow (W:World) (n:Nat) (os:Array Obj):BelowD W.heap.size W (Go.Sort.grow (Go.Sort.ahead W n) os) :=
 ⟨⟨rfl,rfl,rfl,by simp[Go.Sort.grow,Go.Sort.ahead],fun k hk=>Go.Sort.heap_grow_old _ _ hk⟩,Nat.le_add_right _ _⟩
end Go.Sim

namespace Go.Sim
open Go Go.RowKit
variable {P:Program} {N:Nat}
structure CmpIds where
 f:FuncId
 g:FuncId
 m:Nat
 cf:Nat->Nat->Int
def CmpIds.le (s:CmpIds) (x y:Int):Bool:=!decide (s.cf y.toNat x.toNat < 0)
def CmpIds.fits (s:CmpIds) (l:List Int):Bool:=l.all fun x=>decide (0≤x) && decide (x < (s.m+1:Nat))
def sortedC (s:CmpIds) (l:List Int):List Int:=l.mergeSort s.le
theorem sortedC_len (s:CmpIds) (l:List Int):(sortedC s l).length=l.length:=by unfold sortedC;exact List.length_mergeSort l
def sortRowC (s:CmpIds) (w:AW) (n:Nat) (p:Option Addr):Option (Value × AW) :=
 match p with
 | some ⟨b,o,none⟩ =>
  match Nat.ble n 1048576 with
  | true=>match readInts w b o n with
   | some l=>match s.fits l with
    | true=>match aStores b o ((sortedC s l).map encInt) w with
     | some w1=>some (.tuple #[],w1)
     | none=>none
    | false=>none
   | none=>none
  | false=>none
 | _=>none
def sortCT (s:CmpIds) (args:List Value) (w:AW):Option (Value × AW) :=
 match args with
 | [.slice p n _,.func (.func g) first caps] =>
  match Nat.beq g s.g,first.toList,caps.toList with
  | true,[],[] =>
   match Nat.beq n 0 with
   | true=>some (.tuple #[],w)
   | false=>sortRowC s w n p
  | _,_,_=>none
 | _=>none
def toldSets (s:CmpIds) (told:ToldF):ToldF:=fun f args w =>
 match Nat.beq f s.f with
 | true=>sortCT s args.toList w
 | false=>told f args w
def encF (m:Nat) (x:Fin (m+1)):Value:=.int .i64 (x.val:Int)
structure CmpOk2 (P:Program) (s:CmpIds):Prop where
 enters:∀ args W,(callFunc s.f args).run P W=.ok (.enter s.f args) W
 tiny:∀ (p:Option Addr) (c:Nat) (W:World),Calls P s.f #[.slice p 0 c,.func (.func s.g) #[] #[]] W fun e W'=>e=.returned (.tuple #[])/\W'=W
 sorts:∀ (blk off c:Nat) (d:Array (Fin (s.m+1))) (W:World),1≤d.size->d.size≤1048576->Go.Sort.Holds (encF s.m) W blk off d->blk < W.heap.size ->
  Calls P s.f #[.slice (some ⟨blk,off,none⟩) d.size c,.func (.func s.g) #[] #[]] W fun e W' =>
   e=.returned (.tuple #[])/\∃ n os,W'=Go.Sort.grow (Go.Sort.putRow (encF s.m) (Go.Sort.ahead W n) blk off (d.toList.mergeSort fun x y=>!decide (s.cf y.val x.val < 0)).toArray) os
theorem fin_list (n:Nat) {l:List Int} (h:(l.all fun x=>decide (0≤x) && decide (x < n))=true):∃ d:List (Fin n),l=d.map fun x=>(x.val:Int):=by
 induction l with
 | nil=>exact⟨[],rfl⟩
 | cons x l ih =>
  rw[List.all_cons,Bool.and_eq_true,Bool.and_eq_true,decide_eq_true_eq,decide_eq_true_eq]at h
  obtain⟨d,hd⟩:=ih h.2
  refine⟨⟨x.toNat,by omega⟩ :: d,?_⟩
  rw[List.map_cons,<- hd]
  congr 1
  show x=(x.toNat:Int)
  omega
theorem putRow_map {α β:Type} [Inhabited α] [Inhabited β] {enc:α->Value} {enc':β->Value} {d:Array α} {d':Array β} (h:d.map enc=d'.map enc') (W:World) (b o:Nat):Go.Sort.putRow enc W b o d=Go.Sort.putRow enc' W b o d':=by
 have hs:d.size=d'.size:=by have:=congrArg Array.size h;simpa using this
 unfold Go.Sort.putRow
 congr 1
 funext c
 unfold Go.Sort.putCells
 congr 1
 funext k x
 rw[hs]
 split
 . rename_i q
   have h1:k - o < d.size:=by omega
   have h2:k - o < d'.size:=by omega
   rw[getElem!_pos d _ h1,getElem!_pos d' _ h2]
   have:=congrArg (·[k - o]?) h
   simp only[Array.getElem?_map,Array.getElem?_eq_getElem h1,Array.getElem?_eq_getElem h2,Option.map_some,Option.some.injEq]at this
   exact this
 . rfl
theorem sortedC_fin (s:CmpIds) (d:List (Fin (s.m+1))):sortedC s (d.map fun x=>(x.val:Int))=(d.mergeSort fun x y=>!decide (s.cf y.val x.val < 0)).map fun x=>(x.val:Int):=by
 unfold sortedC
 rw[<- List.map_mergeSort]
 intro a _ b _
 unfold CmpIds.le
 simp
theorem empty_of {x:Array Value} (h:x.toList=[]) {y:Array Value} (hs:x.size=y.size):y = #[]:=by
 have:x.size=0:=by rw[<- Array.length_toList,h];rfl
 exact Array.eq_empty_of_size_eq_zero (by omega)
theorem toldSets_ok {s:CmpIds} (hs:CmpOk2 P s) {told:ToldF} (ht:∀ N,ToldOk P N told) (N:Nat):ToldOk P N (toldSets s told):=by
 intro f args w w1 v h σ W args0 cap c cs hw ha
 unfold toldSets at h
 split at h
 case h_2=>exact ht N f args w w1 v h σ W args0 cap c cs hw ha
 rename_i hf
 have hf:=Nat.eq_of_beq_eq_true hf
 subst hf
 unfold sortCT at h
 split at h
 case h_2=>cases h
 rename_i p n k g first caps harg
 split at h
 case h_2=>cases h
 rename_i hids hfi hca
 have h1:=Nat.eq_of_beq_eq_true hids
 subst h1
 obtain⟨a',f',e,r1,r2⟩:=two_args harg ha
 cases r2 with
 | func hfn hfs hcs hfv hcv =>
 rename_i g' first' caps'
 cases hfn
 obtain rfl:=empty_of hfi hfs
 obtain rfl:=empty_of hca hcs
 split at h
 · rename_i hn
   have hn:=Nat.eq_of_beq_eq_true hn
   subst hn
   injection h with h;injection h with h3 h4
   subst h3 h4
   have key:∀ (p':Option Addr) (k':Nat),args0++cap = #[.slice p' 0 k',.func (.func s.g) #[] #[]] ->
       ∃ σ' v' W',Delivers P (.fn (.func s.f) cap) args0 W c cs v' W'/\Ext N σ w W σ' w W'/\VRel σ' (.tuple #[]) v':=by
    intro p' k' e
    have hc:=hs.tiny p' k' W
    rw[<- e]at hc
    obtain⟨W',d1,d2⟩:=delivers_calls hs.enters hc c cs
    subst d2
    exact⟨σ,_,W',d1,.refl hw,.unit⟩
   cases r1 <;> exact key _ _ e
 · rename_i hn
   have hn:1≤n:=by
    rcases Nat.lt_or_ge n 1 with q|q
    . obtain rfl:n=0:=by omega
      cases hn
    . exact q
   unfold sortRowC at h
   split at h
   case h_2=>cases h
   rename_i b o
   split at h
   case h_2=>cases h
   rename_i q4
   have q4:=Nat.le_of_ble_eq_true q4
   split at h
   case h_2=>cases h
   rename_i l hl
   split at h
   case h_2=>cases h
   rename_i hfit
   split at h
   case h_2=>cases h
   rename_i w2 hst
   injection h with h;injection h with h3 h4
   subst h3 h4
   have hlen:=readInts_len hl
   cases r1 with
   | tail=>omega
   | slice hb hk1 hk2 =>
   rename_i k' x
   obtain⟨hext,hfr⟩:=aStores_row hb hw hst
   have hcells:=readInts_at hw hb hl
   rw[sortedC_len]at hfr
   obtain⟨d,hd⟩:=fin_list (s.m+1) hfit
   have hdl:d.length=n:=by have:=congrArg List.length hd;simp only[List.length_map]at this;omega
   have hsz:d.toArray.size=n:=by simp[hdl]
   have hget:∀ j (hj:j < d.length),l[j]'(by omega)=((d[j]).val:Int):=fun j hj=>by simp only[hd,List.getElem_map]
   have hH:Go.Sort.Holds (encF s.m) W x.c (x.s+o) d.toArray:=fun j hj=>by
    have hj':j < d.length:=by simpa using hj
    have hjl:j < l.length:=by omega
    refine⟨?_,?_⟩
    . have:=hcells j hjl
      rw[show x.s+o+j=x.s+(o+j) by omega,this]
      rw[getElem!_pos d.toArray j hj]
      simp only[encF,encInt,List.getElem_toArray,hget j hj']
    . rw[show x.s+o+j=x.s+(o+j) by omega]
      exact hfr j hjl
   have hin:∀ {a:Addr} {u:Value},W.cell? a=some u->a.block < W.heap.size:=fun {a u} ha=>by
    unfold World.cell? at ha
    split at ha
    . rename_i hb
      rcases Nat.lt_or_ge a.block W.heap.size with q|q
      . exact q
      . rw[Array.getElem?_eq_none q]at hb;cases hb
    . cases ha
   have hblk:x.c < W.heap.size:=hin (hH 0 (by omega)).1
   have hc:=hs.sorts x.c (x.s+o) k' d.toArray W (by omega) (by omega) hH hblk
   rw[hsz]at hc
   rw[<- e]at hc
   obtain⟨W',d1,m,os,d2⟩:=delivers_calls hs.enters hc c cs
   have hso:(sortedC s l).toArray.map encInt=((d.toArray.toList.mergeSort fun x y=>!decide (s.cf y.val x.val < 0)).toArray).map (encF s.m):=by
    rw[hd,sortedC_fin]
    simp[encF,encInt,Function.comp_def]
   refine⟨σ,_,W',d1,hext.trans (hext.rel.aside ?_),.unit⟩
   rw[d2,Go.Sort.putRow_ahead,<- putRow_map hso]
   exact below_grow _ _ _
end Go.Sim

namespace Go.Proofs
open Go Go.RowKit Go.Sim
set_option maxRecDepth 100000
def lenN (x:Nat):Nat:=if x=0 then 0 else Nat.log2 x+1
def popN (x:Nat):Nat:=(List.range 6).countP fun k=>x.testBit k
def cmpN (x y:Nat):Int:=if popN x < popN y then -1 else if popN y < popN x then 1 else if x < y then -1 else if y < x then 1 else 0
def Tryz.lenTab:Tab:=⟨116,.u64,64,fun x=>.int .i64 (lenN x:Int)⟩
def Tryz.popTab:Tab:=⟨98,.i64,64,fun x=>.int .i64 (popN x:Int)⟩
def Tryz.cmpIds:CmpIds:=⟨94,95,63,cmpN⟩
def Tryz.T1:ToldF:=toldSets Tryz.cmpIds (toldTab Tryz.lenTab (toldTab Tryz.popTab (toldTrue 21 fun _ _ _=>none)))
def Tryz.s74:SC:=(.seq (.ops false [zo 6 (.assign (.const (.bool false))) 4]) (.seq (.ops false [zo 7 (.move (zv 1)) 3,zo 8 (.move (zv 0)) 3,zo 9 (.binOp .leq 3 (zv 7) (zv 8) 3) 4,zo 10 (.move (zv 9)) 4,zg 11 (.move (zv 0)) 3 10 true,zg 12 (.move (zv 2)) 3 10 true,zg 13 (.binOp .leq 3 (zv 11) (zv 12) 3) 4 10 true,zo 14 (.pick (zv 10) (zv 13) (.const (.bool false))) 4,zo 6 (.assign (zv 14)) 4]) .ret))
def Tryz.s85:SC:=(.seq (.ops false [zo 2 (.assign (zk 0)) 3]) (.seq (.ops false [zo 3 (.move (zv 0)) 3,zo 4 (.binOp .shl 3 (zk 1) (zv 3) 3) 3,zo 5 (.binOp .sub 3 (zv 4) (zk 1) 3) 3,zo 2 (.assign (zv 5)) 3]) .ret))
def Tryz.s54:SC:=(.seq (.ops false [zo 4 (.assign (.const (.bool false))) 4]) (.seq (.ops false [zo 5 (.move (zv 0)) 3,zo 6 (.move (zv 1)) 3,zo 7 (.call ⟨.value (.func 85),⟨[(zv 6)]⟩,⟨[3]⟩⟩) 3,zo 8 (.call ⟨.value (.func 74),⟨[(zv 5),(zk 0),(zv 7)]⟩,⟨[3,3,3]⟩⟩) 4,zo 4 (.assign (zv 8)) 4]) .ret))
def Tryz.s79:SC:=(.seq (.ops false [zo 2 (.assign (.const (.bool false))) 4]) (.seq (.ops false [zo 3 (.move (zv 0)) 3,zo 4 (.call ⟨.value (.func 54),⟨[(zv 3),(zk 8)]⟩,⟨[3,3]⟩⟩) 4,zo 2 (.assign (zv 4)) 4]) .ret))
def Tryz.s84:SC:=(.seq (.ops false [zo 2 (.assign (.const (.bool false))) 4]) (.seq (.seq (.ops false [zo 5 (.move (zv 0)) 24,zo 6 (.call ⟨.builtin .len,⟨[(zv 5)]⟩,⟨[24]⟩⟩) 3,zo 7 (.move (zk 0)) 3]) (.block 0 (.loop (.seq (.ops false [zo 8 (.binOp .lss 3 (zv 7) (zv 6) 3) 0]) (.seq (.cond (.tmp 8) .skip (.exit 0)) (.seq (.block 1 (.seq (.ops false [zo 9 (.indexAddr 24 (zv 5) (zv 7)) 0,zo 10 (.load 3 (zv 9)) 3,zo 4 (.assign (zv 10)) 3]) (.seq (.ops false [zo 11 (.move (zv 4)) 3,zo 12 (.call ⟨.value (.func 79),⟨[(zv 11)]⟩,⟨[3]⟩⟩) 4,zo 13 (.unOp .not 4 (zv 12)) 4]) (.cond (.tmp 13) (.seq (.ops false [zo 2 (.assign (.const (.bool false))) 4]) .ret) .skip)))) (.ops false [zo 14 (.binOp .add 3 (zv 7) (zk 1) 3) 3,zo 7 (.move (zv 14)) 3]))))))) (.seq (.ops false [zo 2 (.assign (.const (.bool true))) 4]) .ret)))
def Tryz.s73:SC:=(.seq (.ops false [zo 4 (.assign (.const (.bool false))) 4]) (.seq (.ops false [zo 5 (.move (zv 0)) 3,zo 6 (.move (zv 1)) 3,zo 7 (.binOp .sub 3 (zv 6) (zk 1) 3) 3,zo 8 (.call ⟨.value (.func 74),⟨[(zv 5),(zk 0),(zv 7)]⟩,⟨[3,3,3]⟩⟩) 4,zo 4 (.assign (zv 8)) 4]) .ret))
def Tryz.s82:SC:=(.seq (.ops false [zo 2 (.assign (.const (.bool false))) 4]) (.seq (.ops false [zo 3 (.move (zv 0)) 24,zo 4 (.call ⟨.builtin .len,⟨[(zv 3)]⟩,⟨[24]⟩⟩) 3,zo 5 (.call ⟨.value (.func 74),⟨[(zv 4),(zk 1),(zk 3)]⟩,⟨[3,3,3]⟩⟩) 4,zo 6 (.move (zv 5)) 4,zg 7 (.move (zv 0)) 24 6 true,zg 8 (.call ⟨.value (.func 84),⟨[(zv 7)]⟩,⟨[24]⟩⟩) 4 6 true,zo 9 (.pick (zv 6) (zv 8) (.const (.bool false))) 4,zo 2 (.assign (zv 9)) 4]) .ret))
def Tryz.s78:SC:=(.seq (.ops false [zo 1 (.box 73 (zv 0)) 0,zo 2 (.assign (.const (.bool false))) 4]) (.seq (.ops false [zo 3 (.fieldAddr 73 (zv 1) 0) 0,zo 4 (.load 3 (zv 3)) 3,zo 5 (.call ⟨.value (.func 74),⟨[(zv 4),(zk 0),(zk 16)]⟩,⟨[3,3,3]⟩⟩) 4,zo 6 (.unOp .not 4 (zv 5)) 4,zo 7 (.move (zv 6)) 4,zg 8 (.fieldAddr 73 (zv 1) 1) 0 7 false,zg 9 (.load 3 (zv 8)) 3 7 false,zg 10 (.call ⟨.value (.func 74),⟨[(zv 9),(zk 0),(zk 3)]⟩,⟨[3,3,3]⟩⟩) 4 7 false,zg 11 (.unOp .not 4 (zv 10)) 4 7 false,zo 12 (.pick (zv 7) (.const (.bool true)) (zv 11)) 4,zo 13 (.move (zv 12)) 4,zg 14 (.fieldAddr 73 (zv 1) 2) 0 13 false,zg 15 (.load 3 (zv 14)) 3 13 false,zg 16 (.call ⟨.value (.func 79),⟨[(zv 15)]⟩,⟨[3]⟩⟩) 4 13 false,zg 17 (.unOp .not 4 (zv 16)) 4 13 false,zo 18 (.pick (zv 13) (.const (.bool true)) (zv 17)) 4,zo 2 (.assign (zv 18)) 4]) .ret))
def Tryz.s112:SC:=(.seq (.ops false [zo 4 (.assign (zk 0)) 3]) (.seq (.seq (.ops false [zo 6 (.move (zv 0)) 22,zo 7 (.call ⟨.builtin .len,⟨[(zv 6)]⟩,⟨[22]⟩⟩) 3,zo 8 (.move (zk 0)) 3]) (.block 0 (.loop (.seq (.ops false [zo 9 (.binOp .lss 3 (zv 8) (zv 7) 3) 0]) (.seq (.cond (.tmp 9) .skip (.exit 0)) (.seq (.block 1 (.seq (.ops false [zo 10 (.move (zv 8)) 3,zo 5 (.assign (zv 10)) 3]) (.seq (.ops false [zo 11 (.move (zv 1)) 124,zo 12 (.move (zv 0)) 22,zo 13 (.move (zv 5)) 3,zo 14 (.indexAddr 22 (zv 12) (zv 13)) 0,zo 15 (.load 73 (zv 14)) 73,zo 16 (.call ⟨.value (zv 11),⟨[(zv 15)]⟩,⟨[73]⟩⟩) 4]) (.cond (.tmp 16) (.seq (.ops false [zo 17 (.move (zv 5)) 3,zo 4 (.assign (zv 17)) 3]) .ret) .skip)))) (.ops false [zo 18 (.binOp .add 3 (zv 8) (zk 1) 3) 3,zo 8 (.move (zv 18)) 3]))))))) (.seq (.ops false [zo 4 (.assign (.const (.int .i64 (-1)))) 3]) .ret)))
def Tryz.s81:SC:=(.seq (.ops false [zo 2 (.box 71 (zv 0)) 0,zo 3 (.assign (.const (.bool false))) 4]) (.seq (.ops false [zo 4 (.fieldAddr 71 (zv 2) 0) 0,zo 5 (.load 3 (zv 4)) 3,zo 6 (.load 3 (zv 1)) 3,zo 7 (.call ⟨.value (.func 73),⟨[(zv 5),(zv 6)]⟩,⟨[3,3]⟩⟩) 4,zo 8 (.unOp .not 4 (zv 7)) 4,zo 9 (.move (zv 8)) 4,zg 10 (.fieldAddr 71 (zv 2) 1) 0 9 false,zg 11 (.load 3 (zv 10)) 3 9 false,zg 12 (.load 3 (zv 1)) 3 9 false,zg 13 (.call ⟨.value (.func 73),⟨[(zv 11),(zv 12)]⟩,⟨[3,3]⟩⟩) 4 9 false,zg 14 (.unOp .not 4 (zv 13)) 4 9 false,zo 15 (.pick (zv 9) (.const (.bool true)) (zv 14)) 4,zo 16 (.move (zv 15)) 4,zg 17 (.fieldAddr 71 (zv 2) 0) 0 16 false,zg 18 (.load 3 (zv 17)) 3 16 false,zg 19 (.fieldAddr 71 (zv 2) 1) 0 16 false,zg 20 (.load 3 (zv 19)) 3 16 false,zg 21 (.binOp .eql 3 (zv 18) (zv 20) 3) 4 16 false,zo 22 (.pick (zv 16) (.const (.bool true)) (zv 21)) 4,zo 23 (.move (zv 22)) 4,zg 24 (.fieldAddr 71 (zv 2) 2) 0 23 false,zg 25 (.load 3 (zv 24)) 3 23 false,zg 26 (.call ⟨.value (.func 74),⟨[(zv 25),(zk 1),(zk 3)]⟩,⟨[3,3,3]⟩⟩) 4 23 false,zg 27 (.unOp .not 4 (zv 26)) 4 23 false,zo 28 (.pick (zv 23) (.const (.bool true)) (zv 27)) 4,zo 29 (.move (zv 28)) 4,zg 30 (.fieldAddr 71 (zv 2) 3) 0 29 false,zg 31 (.load 24 (zv 30)) 24 29 false,zg 32 (.call ⟨.value (.func 82),⟨[(zv 31)]⟩,⟨[24]⟩⟩) 4 29 false,zg 33 (.unOp .not 4 (zv 32)) 4 29 false,zo 34 (.pick (zv 29) (.const (.bool true)) (zv 33)) 4,zo 3 (.assign (zv 34)) 4]) .ret))
def Tryz.s113:SC:=(.seq (.ops false [zo 4 (.assign (zk 0)) 3]) (.seq (.seq (.ops false [zo 6 (.move (zv 0)) 23,zo 7 (.call ⟨.builtin .len,⟨[(zv 6)]⟩,⟨[23]⟩⟩) 3,zo 8 (.move (zk 0)) 3]) (.block 0 (.loop (.seq (.ops false [zo 9 (.binOp .lss 3 (zv 8) (zv 7) 3) 0]) (.seq (.cond (.tmp 9) .skip (.exit 0)) (.seq (.block 1 (.seq (.ops false [zo 10 (.move (zv 8)) 3,zo 5 (.assign (zv 10)) 3]) (.seq (.ops false [zo 11 (.move (zv 1)) 126,zo 12 (.move (zv 0)) 23,zo 13 (.move (zv 5)) 3,zo 14 (.indexAddr 23 (zv 12) (zv 13)) 0,zo 15 (.load 71 (zv 14)) 71,zo 16 (.call ⟨.value (zv 11),⟨[(zv 15)]⟩,⟨[71]⟩⟩) 4]) (.cond (.tmp 16) (.seq (.ops false [zo 17 (.move (zv 5)) 3,zo 4 (.assign (zv 17)) 3]) .ret) .skip)))) (.ops false [zo 18 (.binOp .add 3 (zv 8) (zk 1) 3) 3,zo 8 (.move (zv 18)) 3]))))))) (.seq (.ops false [zo 4 (.assign (.const (.int .i64 (-1)))) 3]) .ret)))
def Tryz.s80:SC:=(.seq (.ops false [zo 4 (.assign (.const (.bool false))) 4]) (.seq (.ops false [zo 5 (.move (zv 0)) 22,zo 6 (.move (zv 1)) 124,zo 7 (.call ⟨.value (.func 112),⟨[(zv 5),(zv 6)]⟩,⟨[22,124]⟩⟩) 3,zo 8 (.binOp .geq 3 (zv 7) (zk 0) 3) 4,zo 4 (.assign (zv 8)) 4]) .ret))
def Tryz.s83:SC:=(.seq (.ops false [zo 4 (.assign (.const (.bool false))) 4]) (.seq (.ops false [zo 5 (.move (zv 0)) 23,zo 6 (.move (zv 1)) 126,zo 7 (.call ⟨.value (.func 113),⟨[(zv 5),(zv 6)]⟩,⟨[23,126]⟩⟩) 3,zo 8 (.binOp .geq 3 (zv 7) (zk 0) 3) 4,zo 4 (.assign (zv 8)) 4]) .ret))
def Tryz.s51:SC:=(.seq (.ops false [zo 2 (.assign (.const (.bool false))) 4]) (.seq (.ops false [zo 3 (.assign (.func 78)) 124]) (.seq (.ops false [zo 4 (.move (zv 0)) 22,zo 5 (.call ⟨.builtin .len,⟨[(zv 4)]⟩,⟨[22]⟩⟩) 3,zo 6 (.call ⟨.value (.func 74),⟨[(zv 5),(zk 1),(zk 6)]⟩,⟨[3,3,3]⟩⟩) 4,zo 7 (.move (zv 6)) 4,zg 8 (.move (zv 0)) 22 7 true,zg 9 (.move (zv 3)) 124 7 true,zg 10 (.call ⟨.value (.func 80),⟨[(zv 8),(zv 9)]⟩,⟨[22,124]⟩⟩) 4 7 true,zg 11 (.unOp .not 4 (zv 10)) 4 7 true,zo 12 (.pick (zv 7) (zv 11) (.const (.bool false))) 4,zo 2 (.assign (zv 12)) 4]) .ret)))
def Tryz.s52:SC:=(.seq (.ops false [zo 3 (.box 3 (zv 1)) 0,zo 4 (.assign (.const (.bool false))) 4]) (.seq (.ops false [zo 6 (.makeFunc (.func 81) ⟨[]⟩ ⟨[(zv 3)]⟩) 126,zo 5 (.assign (zv 6)) 126]) (.seq (.ops false [zo 7 (.move (zv 0)) 23,zo 8 (.call ⟨.builtin .len,⟨[(zv 7)]⟩,⟨[23]⟩⟩) 3,zo 9 (.binOp .leq 3 (zv 8) (zk 10) 3) 4,zo 10 (.move (zv 9)) 4,zg 11 (.move (zv 0)) 23 10 true,zg 12 (.move (zv 5)) 126 10 true,zg 13 (.call ⟨.value (.func 83),⟨[(zv 11),(zv 12)]⟩,⟨[23,126]⟩⟩) 4 10 true,zg 14 (.unOp .not 4 (zv 13)) 4 10 true,zo 15 (.pick (zv 10) (zv 14) (.const (.bool false))) 4,zo 4 (.assign (zv 15)) 4]) .ret)))
def Tryz.s53:SC:=(.seq (.ops false [zo 2 (.assign (.const (.bool false))) 4]) (.seq (.ops false [zo 3 (.move (zv 0)) 24,zo 4 (.call ⟨.builtin .len,⟨[(zv 3)]⟩,⟨[24]⟩⟩) 3,zo 5 (.call ⟨.value (.func 74),⟨[(zv 4),(zk 2),(zk 6)]⟩,⟨[3,3,3]⟩⟩) 4,zo 6 (.move (zv 5)) 4,zg 7 (.move (zv 0)) 24 6 true,zg 8 (.call ⟨.value (.func 84),⟨[(zv 7)]⟩,⟨[24]⟩⟩) 4 6 true,zo 9 (.pick (zv 6) (zv 8) (.const (.bool false))) 4,zo 2 (.assign (zv 9)) 4]) .ret))
def Tryz.s17:SC:=(.seq (.ops false [zo 1 (.box 26 (zv 0)) 0,zo 2 (.assign (zk 0)) 27]) (.seq (.seq (.ops false [zo 3 (.fieldAddr 26 (zv 1) 0) 0,zo 4 (.load 22 (zv 3)) 22,zo 5 (.call ⟨.value (.func 51),⟨[(zv 4)]⟩,⟨[22]⟩⟩) 4,zo 6 (.unOp .not 4 (zv 5)) 4,zo 7 (.move (zv 6)) 4,zg 8 (.fieldAddr 26 (zv 1) 1) 0 7 false,zg 9 (.load 23 (zv 8)) 23 7 false,zg 10 (.fieldAddr 26 (zv 1) 0) 0 7 false,zg 11 (.load 22 (zv 10)) 22 7 false,zg 12 (.call ⟨.builtin .len,⟨[(zv 11)]⟩,⟨[22]⟩⟩) 3 7 false,zg 13 (.call ⟨.value (.func 52),⟨[(zv 9),(zv 12)]⟩,⟨[23,3]⟩⟩) 4 7 false,zg 14 (.unOp .not 4 (zv 13)) 4 7 false,zo 15 (.pick (zv 7) (.const (.bool true)) (zv 14)) 4,zo 16 (.move (zv 15)) 4,zg 17 (.fieldAddr 26 (zv 1) 2) 0 16 false,zg 18 (.load 24 (zv 17)) 24 16 false,zg 19 (.call ⟨.value (.func 53),⟨[(zv 18)]⟩,⟨[24]⟩⟩) 4 16 false,zg 20 (.unOp .not 4 (zv 19)) 4 16 false,zo 21 (.pick (zv 16) (.const (.bool true)) (zv 20)) 4]) (.cond (.tmp 21) (.seq (.ops false [zo 2 (.assign (zk 40)) 27]) .ret) .skip)) (.seq (.ops false [zo 2 (.assign (zk 0)) 27]) .ret)))
theorem Tryz.s74_eq:Tryz.f74.body.map sOf=some Tryz.s74:=by kernel_rfl
theorem Tryz.s85_eq:Tryz.f85.body.map sOf=some Tryz.s85:=by kernel_rfl
theorem Tryz.s54_eq:Tryz.f54.body.map sOf=some Tryz.s54:=by kernel_rfl
theorem Tryz.s79_eq:Tryz.f79.body.map sOf=some Tryz.s79:=by kernel_rfl
theorem Tryz.s84_eq:Tryz.f84.body.map sOf=some Tryz.s84:=by kernel_rfl
theorem Tryz.s73_eq:Tryz.f73.body.map sOf=some Tryz.s73:=by kernel_rfl
theorem Tryz.s82_eq:Tryz.f82.body.map sOf=some Tryz.s82:=by kernel_rfl
theorem Tryz.s78_eq:Tryz.f78.body.map sOf=some Tryz.s78:=by kernel_rfl
theorem Tryz.s112_eq:Tryz.f112.body.map sOf=some Tryz.s112:=by kernel_rfl
theorem Tryz.s81_eq:Tryz.f81.body.map sOf=some Tryz.s81:=by kernel_rfl
theorem Tryz.s113_eq:Tryz.f113.body.map sOf=some Tryz.s113:=by kernel_rfl
theorem Tryz.s80_eq:Tryz.f80.body.map sOf=some Tryz.s80:=by kernel_rfl
theorem Tryz.s83_eq:Tryz.f83.body.map sOf=some Tryz.s83:=by kernel_rfl
theorem Tryz.s51_eq:Tryz.f51.body.map sOf=some Tryz.s51:=by kernel_rfl
theorem Tryz.s52_eq:Tryz.f52.body.map sOf=some Tryz.s52:=by kernel_rfl
theorem Tryz.s53_eq:Tryz.f53.body.map sOf=some Tryz.s53:=by kernel_rfl
theorem Tryz.s17_eq:Tryz.f17.body.map sOf=some Tryz.s17:=by kernel_rfl
end Go.Proofs

namespace Go.Proofs
open Go Go.RowKit Go.Sim
theorem zfp {w:AW} (h:Fresh w) (k:Blk):Fresh (w.push k):=h.push k
theorem znp (w:AW) (k:Blk):(w.push k).next=w.next+1:=AW.next_push w k
attribute [go_sem] Nat.reduceEqDiff reduceIte Nat.reduceAdd Int.toNat_natCast Nat.add_zero Owes_true Tryz.results100 Tryz.results109 Tryz.results110 Tryz.results111 Tryz.results112 Tryz.results113 Tryz.results117 Tryz.results119 Tryz.results120 Tryz.results129 Tryz.results130 Tryz.results131 Tryz.results15 Tryz.results152 Tryz.results153 Tryz.results161 Tryz.results162 Tryz.results163 Tryz.results17 Tryz.results22 Tryz.results25 Tryz.results37 Tryz.results39 Tryz.results40 Tryz.results41 Tryz.results47 Tryz.results48 Tryz.results51 Tryz.results52 Tryz.results53 Tryz.results54 Tryz.results55 Tryz.results58 Tryz.results59 Tryz.results61 Tryz.results73 Tryz.results74 Tryz.results76 Tryz.results77 Tryz.results78 Tryz.results79 Tryz.results80 Tryz.results81 Tryz.results82 Tryz.results83 Tryz.results84 Tryz.results85 Tryz.results87 Tryz.results88 Tryz.results9 Tryz.results95 Tryz.results96 Tryz.results97 Tryz.results99
set_option maxRecDepth 100000
theorem within_okV (n a b:Int) (w:AW):CallT Tryz.prog Tryz.T1 (.fn (.func 74) #[]) #[.int .i64 n,.int .i64 a,.int .i64 b] w (Ret (.bool (inR a n b)) fun w'=>w=w'):=by
 refine callT_code rfl Tryz.func74 rfl Tryz.s74_eq rfl ?_
 delta Tryz.s74 zo zg zv
 by_cases h:a≤n
 . simp -dsimp -implicitDefEqProofs (maxSteps:=2000000) (disch:=first|assumption|omega|simp only[nx];omega|(repeat apply zfp);assumption|simp only[smA];done|simp[oneCell,znp]) only[go_sem,h]
   exact⟨by unfold inR;simp[h],rfl⟩
 . simp -dsimp -implicitDefEqProofs (maxSteps:=2000000) (disch:=first|assumption|omega|simp only[nx];omega|(repeat apply zfp);assumption|simp only[smA];done|simp[oneCell,znp]) only[go_sem,h]
   exact⟨by unfold inR;simp[h],rfl⟩
def fullI (n:Nat):Int:=((2 ^ n:Nat):Int) - 1
theorem full_shl {n:Nat} (h:n≤8):IntKind.i64.wrap (1 * 2 ^ (min n 64))=((2 ^ n:Nat):Int):=by
 have:∀ n,n < 9->IntKind.i64.wrap (1 * 2 ^ (min n 64))=((2 ^ n:Nat):Int):=by decide +kernel
 exact this n (by omega)
theorem full_in {n:Nat} (h:n≤8):1≤((2 ^ n:Nat):Int)/\((2 ^ n:Nat):Int)≤256:=by
 have:∀ n,n < 9->1≤((2 ^ n:Nat):Int)/\((2 ^ n:Nat):Int)≤256:=by decide +kernel
 exact this n (by omega)
theorem full_ok {n:Nat} (h:n≤8) (w:AW):CallT Tryz.prog Tryz.T1 (.fn (.func 85) #[]) #[.int .i64 (n:Int)] w (Ret (.int .i64 (fullI n)) fun w'=>w=w'):=by
 have h0:¬ (n:Int) < 0:=by omega
 have hs:=full_shl h
 have hi:=full_in h
 unfold fullI
 generalize ((2 ^ n:Nat):Int)=N at *
 refine callT_code rfl Tryz.func85 rfl Tryz.s85_eq rfl ?_
 delta Tryz.s85 zo zv zk
 simp -dsimp -implicitDefEqProofs (maxSteps:=2000000) (disch:=first|assumption|omega|simp only[nx];omega|(repeat apply zfp);assumption|simp only[smA];done|simp[oneCell,znp]) only[go_sem,h0,hs]
 exact⟨rfl,rfl⟩
def setB (n:Nat) (x:Int):Bool:=inR 0 x (fullI n)
theorem isSet_ok {n:Nat} (h:n≤8) (x:Int) (w:AW):CallT Tryz.prog Tryz.T1 (.fn (.func 54) #[]) #[.int .i64 x,.int .i64 (n:Int)] w (Ret (.bool (setB n x)) fun w'=>w=w'):=by
 refine callT_code rfl Tryz.func54 rfl Tryz.s54_eq rfl ?_
 delta Tryz.s54 zo zv zk
 simp -dsimp -implicitDefEqProofs (maxSteps:=2000000) (disch:=first|assumption|omega|simp only[nx];omega|(repeat apply zfp);assumption|simp only[smA];done|simp[oneCell,znp]) only[go_sem]
 apply callV_of (e:=rfl)
 . exact full_ok h w
 rintro _ _ ⟨rfl,rfl⟩
 simp -dsimp -implicitDefEqProofs (maxSteps:=2000000) (disch:=first|assumption|omega|simp only[nx];omega|(repeat apply zfp);assumption|simp only[smA];done|simp[oneCell,znp]) only[go_sem]
 apply callV_of (e:=rfl)
 . exact within_okV _ _ _ w
 rintro _ _ ⟨rfl,rfl⟩
 simp -dsimp -implicitDefEqProofs (maxSteps:=2000000) (disch:=first|assumption|omega|simp only[nx];omega|(repeat apply zfp);assumption|simp only[smA];done|simp[oneCell,znp]) only[go_sem]
 exact⟨rfl,rfl⟩
theorem areKeys_ok (x:Int) (w:AW):CallT Tryz.prog Tryz.T1 (.fn (.func 79) #[]) #[.int .i64 x] w (Ret (.bool (setB 8 x)) fun w'=>w=w'):=by
 have h8:((8:Nat):Int)=8:=rfl
 have:=isSet_ok (n:=8) (by omega) x w
 rw[h8]at this
 refine callT_code rfl Tryz.func79 rfl Tryz.s79_eq rfl ?_
 delta Tryz.s79 zo zv zk
 simp -dsimp -implicitDefEqProofs (maxSteps:=2000000) (disch:=first|assumption|omega|simp only[nx];omega|(repeat apply zfp);assumption|simp only[smA];done|simp[oneCell,znp]) only[go_sem]
 apply callV_of (e:=rfl)
 . exact this
 rintro _ _ ⟨rfl,rfl⟩
 simp -dsimp -implicitDefEqProofs (maxSteps:=2000000) (disch:=first|assumption|omega|simp only[nx];omega|(repeat apply zfp);assumption|simp only[smA];done|simp[oneCell,znp]) only[go_sem]
 exact⟨rfl,rfl⟩
theorem allKeys_ok (L:List Int) (v:Value) (w:AW) (hv:ArrOf w 1 icells v L):CallT Tryz.prog Tryz.T1 (.fn (.func 84) #[]) #[v] w (Ret (.bool (L.all (setB 8))) fun w'=>w=w'):=by
 obtain⟨p,c,rfl,_,_,hat⟩:=hv.open
 refine callT_code rfl Tryz.func84 rfl Tryz.s84_eq rfl ?_
 delta Tryz.s84 zo zv zk
 simp -dsimp -implicitDefEqProofs (maxSteps:=2000000) (disch:=first|assumption|omega|simp only[nx];omega|(repeat apply zfp);assumption|simp only[smA];done|simp[oneCell,znp]) only[go_sem]
 refine loopR (fun k t ds w1=>∃ i:Nat,i≤L.length/\k=L.length - i/\ds=[]/\ev t (.tmp 5)=.slice p L.length c/\ev t (.tmp 6)=.int .i64 (L.length:Int)/\ev t (.tmp 7)=.int .i64 (i:Int)/\(L.take i).all (setB 8)=true/\w=w1) (L.length) ?_ ?_
 . refine⟨0,by omega,by omega,rfl,?_,?_,?_,rfl,rfl⟩ <;> simp -dsimp -implicitDefEqProofs (maxSteps:=2000000) (disch:=first|assumption|omega|simp only[nx];omega|(repeat apply zfp);assumption|simp only[smA];done|simp[oneCell,znp]) only[go_sem] <;> rfl
 rintro k t ds w1 ⟨i,hii,rfl,rfl,e5,e6,e7,hall,hw⟩
 subst hw
 by_cases hlt:(i:Int) < (L.length:Int)
 case neg =>
  obtain rfl:i=L.length:=by omega
  rw[List.take_length]at hall
  simp -dsimp -implicitDefEqProofs (maxSteps:=2000000) (disch:=first|assumption|omega|simp only[nx];omega|(repeat apply zfp);assumption|simp only[smA];done|simp[oneCell,znp]) only[go_sem,e5,e6,e7,hlt]
  exact⟨by rw[hall],rfl⟩
 have hlt':i < L.length:=by omega
 obtain⟨b1,o1,rfl,_,hcell⟩:=hat i hlt'
 have a0:=hcell w (.refl _ _) 0 _ rfl
 rw[Nat.add_zero]at a0
 have hsucc:(L.take (i+1)).all (setB 8)=setB 8 L[i]:=by
  rw[List.take_add_one,List.getElem?_eq_getElem hlt',List.all_append,hall];simp
 simp -dsimp -implicitDefEqProofs (maxSteps:=2000000) (disch:=first|assumption|omega|simp only[nx];omega|(repeat apply zfp);assumption|simp only[smA];done|simp[oneCell,znp]) only[go_sem,e5,e6,e7,hlt,indexV_eq,a0]
 apply callV_of (e:=rfl)
 . exact areKeys_ok _ w
 rintro _ _ ⟨rfl,rfl⟩
 cases hk:setB 8 L[i] with
 | false =>
  have hF:L.all (setB 8)=false:=by
   rw[Bool.eq_false_iff];intro z
   rw[List.all_eq_true.1 z _ (List.getElem_mem hlt')]at hk;cases hk
  simp -dsimp -implicitDefEqProofs (maxSteps:=2000000) (disch:=first|assumption|omega|simp only[nx];omega|(repeat apply zfp);assumption|simp only[smA];done|simp[oneCell,znp]) only[go_sem,e5,e6,e7,hk]
  exact⟨by rw[hF],rfl⟩
 | true =>
  simp -dsimp -implicitDefEqProofs (maxSteps:=2000000) (disch:=first|assumption|omega|simp only[nx];omega|(repeat apply zfp);assumption|simp only[smA];done|simp[oneCell,znp]) only[go_sem,e5,e6,e7,hk]
  refine⟨_,by omega,i+1,by omega,rfl,rfl,by(simp only[go_sem,e5];try rfl),by(simp only[go_sem,e6];try rfl),by(simp only[go_sem,e7];try rfl),(by rw[hsucc,hk]),rfl⟩
theorem isIndex_ok (n m:Int) (hm:0≤m/\m≤1000000) (w:AW):CallT Tryz.prog Tryz.T1 (.fn (.func 73) #[]) #[.int .i64 n,.int .i64 m] w (Ret (.bool (inR 0 n (m - 1))) fun w'=>w=w'):=by
 refine callT_code rfl Tryz.func73 rfl Tryz.s73_eq rfl ?_
 delta Tryz.s73 zo zv zk
 simp -dsimp -implicitDefEqProofs (maxSteps:=2000000) (disch:=first|assumption|omega|simp only[nx];omega|(repeat apply zfp);assumption|simp only[smA];done|simp[oneCell,znp]) only[go_sem]
 apply callV_of (e:=rfl)
 . exact within_okV _ _ _ w
 rintro _ _ ⟨rfl,rfl⟩
 simp -dsimp -implicitDefEqProofs (maxSteps:=2000000) (disch:=first|assumption|omega|simp only[nx];omega|(repeat apply zfp);assumption|simp only[smA];done|simp[oneCell,znp]) only[go_sem]
 exact⟨rfl,rfl⟩
def waysB (l:List Int):Bool:=inR 1 l.length 3 && l.all (setB 8)
theorem areWays_ok (L:List Int) (v:Value) (w:AW) (hv:ArrOf w 1 icells v L):CallT Tryz.prog Tryz.T1 (.fn (.func 82) #[]) #[v] w (Ret (.bool (waysB L)) fun w'=>w=w'):=by
 obtain⟨p,c,rfl,_⟩:=id hv.open
 refine callT_code rfl Tryz.func82 rfl Tryz.s82_eq rfl ?_
 delta Tryz.s82 zo zg zv zk
 simp -dsimp -implicitDefEqProofs (maxSteps:=2000000) (disch:=first|assumption|omega|simp only[nx];omega|(repeat apply zfp);assumption|simp only[smA];done|simp[oneCell,znp]) only[go_sem]
 apply callV_of (e:=rfl)
 . exact within_okV _ _ _ w
 rintro _ _ ⟨rfl,rfl⟩
 cases h1:inR 1 L.length 3 with
 | false =>
  simp -dsimp -implicitDefEqProofs (maxSteps:=2000000) (disch:=first|assumption|omega|simp only[nx];omega|(repeat apply zfp);assumption|simp only[smA];done|simp[oneCell,znp]) only[go_sem,h1]
  exact⟨by unfold waysB;rw[h1];rfl,rfl⟩
 | true =>
  simp -dsimp -implicitDefEqProofs (maxSteps:=2000000) (disch:=first|assumption|omega|simp only[nx];omega|(repeat apply zfp);assumption|simp only[smA];done|simp[oneCell,znp]) only[go_sem,h1]
  apply callV_of (e:=rfl)
  . exact allKeys_ok L _ w hv
  rintro _ _ ⟨rfl,rfl⟩
  simp -dsimp -implicitDefEqProofs (maxSteps:=2000000) (disch:=first|assumption|omega|simp only[nx];omega|(repeat apply zfp);assumption|simp only[smA];done|simp[oneCell,znp]) only[go_sem]
  exact⟨by unfold waysB;rw[h1];rfl,rfl⟩
end Go.Proofs

namespace Go.Proofs
open Go Go.RowKit Go.Sim
set_option maxRecDepth 100000
structure RoomN where
 hold:Int
 climate:Int
 keys:Int
structure GateN where
 A:Int
 B:Int
 need:Int
 ways:List Int
def rcells (r:RoomN):List Value:=[.int .i64 r.hold,.int .i64 r.climate,.int .i64 r.keys]
def gcells (g:GateN × Value):List Value:=[.int .i64 g.1.A,.int .i64 g.1.B,.int .i64 g.1.need,g.2]
def GatesAt (w:AW) (v:Value) (gs:List GateN):Prop:=∃ ws:List (GateN × Value),ws.map Prod.fst=gs/\ArrOf w 4 gcells v ws/\∀ p ∈ ws,ArrOf w 1 icells p.2 p.1.ways
theorem GatesAt.grown {w w':AW} {v:Value} {gs:List GateN} (h:GatesAt w v gs) (g:Grown w w'):GatesAt w' v gs:=by
 obtain⟨ws,a,b,c⟩:=h
 exact⟨ws,a,b.grown g,fun p hp=>(c p hp).grown g⟩
def roomB (r:RoomN):Bool:=inR 0 r.hold 16 && (inR 0 r.climate 3 && setB 8 r.keys)
def gateB (n:Nat) (g:GateN):Bool:=inR 0 g.A ((n:Int) - 1) && (inR 0 g.B ((n:Int) - 1) && (!decide (g.A=g.B) && (inR 1 g.need 3 && waysB g.ways)))
theorem roomBad_okV (r:RoomN) (w:AW) (f:Fresh w):CallT Tryz.prog Tryz.T1 (.fn (.func 78) #[]) #[.agg #[.int .i64 r.hold,.int .i64 r.climate,.int .i64 r.keys]] w (Ret (.bool (!roomB r)) (Grown w)):=by
 have g1:=(Grown.refl f).push (.cells (rcells r) 73 w.next 0 0)
 have O1:=Own.new f 73 (rcells r)
 have c0:=O1.cell (o:=0) rfl rfl
 have c1:=O1.cell (o:=1) rfl rfl
 have c2:=O1.cell (o:=2) rfl rfl
 unfold rcells at *
 refine callT_code rfl Tryz.func78 rfl Tryz.s78_eq rfl ?_
 delta Tryz.s78 zo zg zv zk
 simp -dsimp -implicitDefEqProofs (maxSteps:=2000000) (disch:=first|assumption|omega|simp only[nx];omega|(repeat apply zfp);assumption|simp only[smA];done|simp[oneCell,znp]) only[go_sem,c0,c1,c2,Nat.zero_add]
 generalize w.push (.cells [.int .i64 r.hold,.int .i64 r.climate,.int .i64 r.keys] 73 w.next 0 0)=w1 at *
 apply callV_of (e:=rfl)
 . exact within_okV _ _ _ w1
 rintro _ _ ⟨rfl,rfl⟩
 cases h1:inR 0 r.hold 16 with
 | false =>
  simp -dsimp -implicitDefEqProofs (maxSteps:=2000000) (disch:=first|assumption|omega|simp only[nx];omega|(repeat apply zfp);assumption|simp only[smA];done|simp[oneCell,znp]) only[go_sem,h1]
  exact⟨by unfold roomB;rw[h1];rfl,g1⟩
 | true =>
 simp -dsimp -implicitDefEqProofs (maxSteps:=2000000) (disch:=first|assumption|omega|simp only[nx];omega|(repeat apply zfp);assumption|simp only[smA];done|simp[oneCell,znp]) only[go_sem,h1,c1,Nat.zero_add]
 apply callV_of (e:=rfl)
 . exact within_okV _ _ _ w1
 rintro _ _ ⟨rfl,rfl⟩
 cases h2:inR 0 r.climate 3 with
 | false =>
  simp -dsimp -implicitDefEqProofs (maxSteps:=2000000) (disch:=first|assumption|omega|simp only[nx];omega|(repeat apply zfp);assumption|simp only[smA];done|simp[oneCell,znp]) only[go_sem,h1,h2]
  exact⟨by unfold roomB;rw[h1,h2];rfl,g1⟩
 | true =>
 simp -dsimp -implicitDefEqProofs (maxSteps:=2000000) (disch:=first|assumption|omega|simp only[nx];omega|(repeat apply zfp);assumption|simp only[smA];done|simp[oneCell,znp]) only[go_sem,h1,h2,c2,Nat.zero_add]
 apply callV_of (e:=rfl)
 . exact areKeys_ok _ w1
 rintro _ _ ⟨rfl,rfl⟩
 simp -dsimp -implicitDefEqProofs (maxSteps:=2000000) (disch:=first|assumption|omega|simp only[nx];omega|(repeat apply zfp);assumption|simp only[smA];done|simp[oneCell,znp]) only[go_sem]
 exact⟨by unfold roomB;rw[h1,h2];rfl,g1⟩
theorem room_idx (L:List RoomN) (v:Value) (w:AW) (f:Fresh w) (hv:ArrOf w 3 rcells v L) :
    CallT Tryz.prog Tryz.T1 (.fn (.func 112) #[]) #[v,.func (.func 78) #[] #[]] w (fun r w'=>Grown w w'/\∃ n:Int,r=.int .i64 n/\(n ≥ 0↔L.all roomB=false)/\-1≤n/\n≤1000000000000000):=by
 obtain⟨p,c,rfl,hc1,hc2,hat⟩:=hv.open
 refine callT_code rfl Tryz.func112 rfl Tryz.s112_eq rfl ?_
 delta Tryz.s112 zo zv zk
 simp -dsimp -implicitDefEqProofs (maxSteps:=2000000) (disch:=first|assumption|omega|simp only[nx];omega|(repeat apply zfp);assumption|simp only[smA];done|simp[oneCell,znp]) only[go_sem]
 refine loopR (fun k t ds w1=>∃ i:Nat,i≤L.length/\k=L.length - i/\ds=[]/\ev t (.tmp 0)=.slice p L.length c/\ev t (.tmp 1)=.func (.func 78) #[] #[]/\ev t (.tmp 7)=.int .i64 (L.length:Int)/\ev t (.tmp 8)=.int .i64 (i:Int)/\(L.take i).all roomB=true/\Keep w.next w w1/\Fresh w1) (L.length) ?_ ?_
 . refine⟨0,by omega,by omega,rfl,?_,?_,?_,?_,rfl,.refl _ _,f⟩ <;> simp -dsimp -implicitDefEqProofs (maxSteps:=2000000) (disch:=first|assumption|omega|simp only[nx];omega|(repeat apply zfp);assumption|simp only[smA];done|simp[oneCell,znp]) only[go_sem] <;> rfl
 rintro k t ds w1 ⟨i,hii,rfl,rfl,e0,e1,e7,e8,hno,k1,f1⟩
 by_cases hlt:(i:Int) < (L.length:Int)
 case neg =>
  obtain rfl:i=L.length:=by omega
  rw[List.take_length]at hno
  simp -dsimp -implicitDefEqProofs (maxSteps:=2000000) (disch:=first|assumption|omega|simp only[nx];omega|(repeat apply zfp);assumption|simp only[smA];done|simp[oneCell,znp]) only[go_sem,e0,e1,e7,e8,hlt]
  exact⟨⟨k1,f1⟩,-1,rfl,by rw[hno];simp,by omega,by omega⟩
 have hlt':i < L.length:=by omega
 obtain⟨b1,o1,rfl,_,hcell⟩:=hat i hlt'
 have a0:=hcell w1 k1 0 _ rfl
 have a1:=hcell w1 k1 1 _ rfl
 have a2:=hcell w1 k1 2 _ rfl
 have hsucc:(L.take (i+1)).all roomB=roomB L[i]:=by
  rw[List.take_add_one,List.getElem?_eq_getElem hlt',List.all_append,hno];simp
 have hlo:loadV w1 true 3 (.pointer (some ⟨b1,o1+i * 3,none⟩))=some (.agg #[.int .i64 L[i].hold,.int .i64 L[i].climate,.int .i64 L[i].keys]):=by
  rw[Nat.add_zero]at a0
  simp only[loadV,aCells,a0,a1,a2]
 simp -dsimp -implicitDefEqProofs (maxSteps:=2000000) (disch:=first|assumption|omega|simp only[nx];omega|(repeat apply zfp);assumption|simp only[smA];done|simp[oneCell,znp]) only[go_sem,e0,e1,e7,e8,hlt,indexV_eq,hlo]
 apply callV_of (e:=rfl)
 . exact roomBad_okV L[i] w1 f1
 rintro _ w2 ⟨rfl,g2⟩
 cases hk:roomB L[i] with
 | false =>
  have hF:L.all roomB=false:=by
   rw[Bool.eq_false_iff];intro z
   rw[List.all_eq_true.1 z _ (List.getElem_mem hlt')]at hk;cases hk
  simp -dsimp -implicitDefEqProofs (maxSteps:=2000000) (disch:=first|assumption|omega|simp only[nx];omega|(repeat apply zfp);assumption|simp only[smA];done|simp[oneCell,znp]) only[go_sem,e0,e1,e7,e8,hk]
  exact⟨⟨k1.trans (g2.1.mono k1.next),g2.2⟩,i,rfl,⟨fun _=>hF,fun _=>by omega⟩,by omega,by omega⟩
 | true =>
  simp -dsimp -implicitDefEqProofs (maxSteps:=2000000) (disch:=first|assumption|omega|simp only[nx];omega|(repeat apply zfp);assumption|simp only[smA];done|simp[oneCell,znp]) only[go_sem,e0,e1,e7,e8,hk]
  refine⟨_,by omega,i+1,by omega,rfl,rfl,by(simp only[go_sem,e0];try rfl),by(simp only[go_sem,e1];try rfl),by(simp only[go_sem,e7];try rfl),by(simp only[go_sem,e8];try rfl),(by rw[hsucc,hk]),k1.trans (g2.1.mono k1.next),g2.2⟩
theorem gateBad_okV (g:GateN) (x:Value) (m:Nat) (hm:m≤1000000) (b:Nat) (w:AW) (f:Fresh w) (hb:Own w b 3 [.int .i64 (m:Int)]) (hw:ArrOf w 1 icells x g.ways) :
    CallT Tryz.prog Tryz.T1 (.fn (.func 81) #[.pointer (some ⟨b,0,none⟩)]) #[.agg #[.int .i64 g.A,.int .i64 g.B,.int .i64 g.need,x]] w (Ret (.bool (!gateB m g)) (Grown w)):=by
 have g1:=(Grown.refl f).push (.cells [.int .i64 g.A,.int .i64 g.B,.int .i64 g.need,x] 71 w.next 0 0)
 have O1:=Own.new f 71 [.int .i64 g.A,.int .i64 g.B,.int .i64 g.need,x]
 obtain⟨px,cx,rfl,_⟩:=id hw.open
 have c0:=O1.cell (o:=0) rfl rfl
 have c1:=O1.cell (o:=1) rfl rfl
 have c2:=O1.cell (o:=2) rfl rfl
 have c3:=O1.cell (o:=3) rfl rfl
 have cm:=(hb.keep g1.1).cell (o:=0) rfl rfl
 refine callT_code rfl Tryz.func81 rfl Tryz.s81_eq rfl ?_
 delta Tryz.s81 zo zg zv zk
 simp -dsimp -implicitDefEqProofs (maxSteps:=2000000) (disch:=first|assumption|omega|simp only[nx];omega|(repeat apply zfp);assumption|simp only[smA];done|simp[oneCell,znp]) only[go_sem,c0,c1,c2,c3,cm,Nat.zero_add]
 generalize w.push (.cells [.int .i64 g.A,.int .i64 g.B,.int .i64 g.need,.slice px g.ways.length cx] 71 w.next 0 0)=w1 at *
 apply callV_of (e:=rfl)
 . exact isIndex_ok _ _ (by omega) w1
 rintro _ _ ⟨rfl,rfl⟩
 cases h1:inR 0 g.A ((m:Int) - 1) with
 | false =>
  simp -dsimp -implicitDefEqProofs (maxSteps:=2000000) (disch:=first|assumption|omega|simp only[nx];omega|(repeat apply zfp);assumption|simp only[smA];done|simp[oneCell,znp]) only[go_sem,h1]
  exact⟨by unfold gateB;rw[h1];rfl,g1⟩
 | true =>
 simp -dsimp -implicitDefEqProofs (maxSteps:=2000000) (disch:=first|assumption|omega|simp only[nx];omega|(repeat apply zfp);assumption|simp only[smA];done|simp[oneCell,znp]) only[go_sem,h1,c1,cm,Nat.zero_add]
 apply callV_of (e:=rfl)
 . exact isIndex_ok _ _ (by omega) w1
 rintro _ _ ⟨rfl,rfl⟩
 cases h2:inR 0 g.B ((m:Int) - 1) with
 | false =>
  simp -dsimp -implicitDefEqProofs (maxSteps:=2000000) (disch:=first|assumption|omega|simp only[nx];omega|(repeat apply zfp);assumption|simp only[smA];done|simp[oneCell,znp]) only[go_sem,h1,h2]
  exact⟨by unfold gateB;rw[h1,h2];rfl,g1⟩
 | true =>
 by_cases h3:g.A=g.B
 . have hd:decide (g.A=g.B)=true:=decide_eq_true h3
   simp -dsimp -implicitDefEqProofs (maxSteps:=2000000) (disch:=first|assumption|omega|simp only[nx];omega|(repeat apply zfp);assumption|simp only[smA];done|simp[oneCell,znp]) only[go_sem,h1,h2,c0,c1,hd,Nat.zero_add]
   exact⟨by unfold gateB;rw[h1,h2,hd];rfl,g1⟩
 have hd:decide (g.A=g.B)=false:=decide_eq_false h3
 simp -dsimp -implicitDefEqProofs (maxSteps:=2000000) (disch:=first|assumption|omega|simp only[nx];omega|(repeat apply zfp);assumption|simp only[smA];done|simp[oneCell,znp]) only[go_sem,h1,h2,c0,c1,c2,hd,Nat.zero_add]
 apply callV_of (e:=rfl)
 . exact within_okV _ _ _ w1
 rintro _ _ ⟨rfl,rfl⟩
 cases h4:inR 1 g.need 3 with
 | false =>
  simp -dsimp -implicitDefEqProofs (maxSteps:=2000000) (disch:=first|assumption|omega|simp only[nx];omega|(repeat apply zfp);assumption|simp only[smA];done|simp[oneCell,znp]) only[go_sem,h4]
  exact⟨by unfold gateB;rw[h1,h2,hd,h4];rfl,g1⟩
 | true =>
 simp -dsimp -implicitDefEqProofs (maxSteps:=2000000) (disch:=first|assumption|omega|simp only[nx];omega|(repeat apply zfp);assumption|simp only[smA];done|simp[oneCell,znp]) only[go_sem,h4,c3,Nat.zero_add]
 apply callV_of (e:=rfl)
 . exact areWays_ok _ _ w1 (hw.grown g1)
 rintro _ _ ⟨rfl,rfl⟩
 simp -dsimp -implicitDefEqProofs (maxSteps:=2000000) (disch:=first|assumption|omega|simp only[nx];omega|(repeat apply zfp);assumption|simp only[smA];done|simp[oneCell,znp]) only[go_sem]
 exact⟨by unfold gateB;rw[h1,h2,hd,h4];rfl,g1⟩
theorem gate_idx (L:List GateN) (v:Value) (m:Nat) (hm:m≤1000000) (b:Nat) (w:AW) (f:Fresh w) (hb:Own w b 3 [.int .i64 (m:Int)]) (hv:GatesAt w v L) :
    CallT Tryz.prog Tryz.T1 (.fn (.func 113) #[]) #[v,.func (.func 81) #[] #[.pointer (some ⟨b,0,none⟩)]] w (fun r w'=>Grown w w'/\∃ n:Int,r=.int .i64 n/\(n ≥ 0↔L.all (gateB m)=false)/\-1≤n/\n≤1000000000000000):=by
 obtain⟨ws,rfl,hA,hW⟩:=hv
 obtain⟨p,c,rfl,hc1,hc2,hat⟩:=hA.open
 refine callT_code rfl Tryz.func113 rfl Tryz.s113_eq rfl ?_
 delta Tryz.s113 zo zv zk
 simp -dsimp -implicitDefEqProofs (maxSteps:=2000000) (disch:=first|assumption|omega|simp only[nx];omega|(repeat apply zfp);assumption|simp only[smA];done|simp[oneCell,znp]) only[go_sem]
 refine loopR (fun k t ds w1=>∃ i:Nat,i≤ws.length/\k=ws.length - i/\ds=[]/\ev t (.tmp 0)=.slice p ws.length c/\ev t (.tmp 1)=.func (.func 81) #[] #[.pointer (some ⟨b,0,none⟩)]/\ev t (.tmp 7)=.int .i64 (ws.length:Int)/\ev t (.tmp 8)=.int .i64 (i:Int)/\((ws.map Prod.fst).take i).all (gateB m)=true/\Keep w.next w w1/\Fresh w1) (ws.length) ?_ ?_
 . refine⟨0,by omega,by omega,rfl,?_,?_,?_,?_,rfl,.refl _ _,f⟩ <;> simp -dsimp -implicitDefEqProofs (maxSteps:=2000000) (disch:=first|assumption|omega|simp only[nx];omega|(repeat apply zfp);assumption|simp only[smA];done|simp[oneCell,znp]) only[go_sem] <;> rfl
 rintro k t ds w1 ⟨i,hii,rfl,rfl,e0,e1,e7,e8,hno,k1,f1⟩
 have hlm:(ws.map Prod.fst).length=ws.length:=by simp
 by_cases hlt:(i:Int) < (ws.length:Int)
 case neg =>
  obtain rfl:i=ws.length:=by omega
  rw[<- hlm,List.take_length]at hno
  simp -dsimp -implicitDefEqProofs (maxSteps:=2000000) (disch:=first|assumption|omega|simp only[nx];omega|(repeat apply zfp);assumption|simp only[smA];done|simp[oneCell,znp]) only[go_sem,e0,e1,e7,e8,hlt]
  exact⟨⟨k1,f1⟩,-1,rfl,by rw[hno];simp,by omega,by omega⟩
 have hlt':i < ws.length:=by omega
 obtain⟨b1,o1,rfl,_,hcell⟩:=hat i hlt'
 have a0:=hcell w1 k1 0 _ rfl
 have a1:=hcell w1 k1 1 _ rfl
 have a2:=hcell w1 k1 2 _ rfl
 have a3:=hcell w1 k1 3 _ rfl
 have hmi:(ws.map Prod.fst)[i]'(by omega)=ws[i].1:=by simp
 have hsucc:((ws.map Prod.fst).take (i+1)).all (gateB m)=gateB m ws[i].1:=by
  rw[List.take_add_one,List.getElem?_eq_getElem (by omega),List.all_append,hno,hmi];simp
 have hlo:loadV w1 true 4 (.pointer (some ⟨b1,o1+i * 4,none⟩))=some (.agg #[.int .i64 ws[i].1.A,.int .i64 ws[i].1.B,.int .i64 ws[i].1.need,ws[i].2]):=by
  rw[Nat.add_zero]at a0
  simp only[loadV,aCells,a0,a1,a2,a3]
 have hwi:=(hW _ (List.getElem_mem hlt')).kept k1
 simp -dsimp -implicitDefEqProofs (maxSteps:=2000000) (disch:=first|assumption|omega|simp only[nx];omega|(repeat apply zfp);assumption|simp only[smA];done|simp[oneCell,znp]) only[go_sem,e0,e1,e7,e8,hlt,indexV_eq,hlo]
 apply callV_of (e:=rfl)
 . exact gateBad_okV ws[i].1 ws[i].2 m hm b w1 f1 (hb.keep k1) hwi
 rintro _ w2 ⟨rfl,g2⟩
 cases hk:gateB m ws[i].1 with
 | false =>
  have hF:(ws.map Prod.fst).all (gateB m)=false:=by
   rw[Bool.eq_false_iff];intro z
   have:=List.all_eq_true.1 z _ (List.getElem_mem (l:=ws.map Prod.fst) (n:=i) (by omega))
   rw[hmi,hk]at this;cases this
  simp -dsimp -implicitDefEqProofs (maxSteps:=2000000) (disch:=first|assumption|omega|simp only[nx];omega|(repeat apply zfp);assumption|simp only[smA];done|simp[oneCell,znp]) only[go_sem,e0,e1,e7,e8,hk]
  exact⟨⟨k1.trans (g2.1.mono k1.next),g2.2⟩,i,rfl,⟨fun _=>hF,fun _=>by omega⟩,by omega,by omega⟩
 | true =>
  simp -dsimp -implicitDefEqProofs (maxSteps:=2000000) (disch:=first|assumption|omega|simp only[nx];omega|(repeat apply zfp);assumption|simp only[smA];done|simp[oneCell,znp]) only[go_sem,e0,e1,e7,e8,hk]
  refine⟨_,by omega,i+1,by omega,rfl,rfl,by(simp only[go_sem,e0];try rfl),by(simp only[go_sem,e1];try rfl),by(simp only[go_sem,e7];try rfl),by(simp only[go_sem,e8];try rfl),(by rw[hsucc,hk]),k1.trans (g2.1.mono k1.next),g2.2⟩
theorem roomsBad_ok (L:List RoomN) (v:Value) (w:AW) (f:Fresh w) (hv:ArrOf w 3 rcells v L) :
    CallT Tryz.prog Tryz.T1 (.fn (.func 80) #[]) #[v,.func (.func 78) #[] #[]] w (Ret (.bool (!L.all roomB)) (Grown w)):=by
 refine callT_code rfl Tryz.func80 rfl Tryz.s80_eq rfl ?_
 delta Tryz.s80 zo zv zk
 simp -dsimp -implicitDefEqProofs (maxSteps:=2000000) (disch:=first|assumption|omega|simp only[nx];omega|(repeat apply zfp);assumption|simp only[smA];done|simp[oneCell,znp]) only[go_sem]
 apply callV_of (e:=rfl)
 . exact room_idx L v w f hv
 rintro _ w1 ⟨g1,n,rfl,hn,hn1,hn2⟩
 cases hq:L.all roomB with
 | false =>
  have hge:n ≥ 0:=hn.2 hq
  simp -dsimp -implicitDefEqProofs (maxSteps:=2000000) (disch:=first|assumption|omega|simp only[nx];omega|(repeat apply zfp);assumption|simp only[smA];done|simp[oneCell,znp]) only[go_sem,hge]
  exact⟨rfl,g1⟩
 | true =>
  have hge:¬ n ≥ 0:=fun z=>by rw[hn.1 z]at hq;cases hq
  simp -dsimp -implicitDefEqProofs (maxSteps:=2000000) (disch:=first|assumption|omega|simp only[nx];omega|(repeat apply zfp);assumption|simp only[smA];done|simp[oneCell,znp]) only[go_sem,hge]
  exact⟨rfl,g1⟩
theorem gatesBad_ok (L:List GateN) (v:Value) (m:Nat) (hm:m≤1000000) (b:Nat) (w:AW) (f:Fresh w) (hb:Own w b 3 [.int .i64 (m:Int)]) (hv:GatesAt w v L) :
    CallT Tryz.prog Tryz.T1 (.fn (.func 83) #[]) #[v,.func (.func 81) #[] #[.pointer (some ⟨b,0,none⟩)]] w (Ret (.bool (!L.all (gateB m))) (Grown w)):=by
 refine callT_code rfl Tryz.func83 rfl Tryz.s83_eq rfl ?_
 delta Tryz.s83 zo zv zk
 simp -dsimp -implicitDefEqProofs (maxSteps:=2000000) (disch:=first|assumption|omega|simp only[nx];omega|(repeat apply zfp);assumption|simp only[smA];done|simp[oneCell,znp]) only[go_sem]
 apply callV_of (e:=rfl)
 . exact gate_idx L v m hm b w f hb hv
 rintro _ w1 ⟨g1,n,rfl,hn,hn1,hn2⟩
 cases hq:L.all (gateB m) with
 | false =>
  have hge:n ≥ 0:=hn.2 hq
  simp -dsimp -implicitDefEqProofs (maxSteps:=2000000) (disch:=first|assumption|omega|simp only[nx];omega|(repeat apply zfp);assumption|simp only[smA];done|simp[oneCell,znp]) only[go_sem,hge]
  exact⟨rfl,g1⟩
 | true =>
  have hge:¬ n ≥ 0:=fun z=>by rw[hn.1 z]at hq;cases hq
  simp -dsimp -implicitDefEqProofs (maxSteps:=2000000) (disch:=first|assumption|omega|simp only[nx];omega|(repeat apply zfp);assumption|simp only[smA];done|simp[oneCell,znp]) only[go_sem,hge]
  exact⟨rfl,g1⟩
def roomsB (L:List RoomN):Bool:=inR 1 L.length 6 && L.all roomB
def gatesB (m:Nat) (L:List GateN):Bool:=decide ((L.length:Int)≤10) && L.all (gateB m)
def staffB (L:List Int):Bool:=inR 2 L.length 6 && L.all (setB 8)
theorem areRooms_ok (L:List RoomN) (v:Value) (w:AW) (f:Fresh w) (hv:ArrOf w 3 rcells v L) :
    CallT Tryz.prog Tryz.T1 (.fn (.func 51) #[]) #[v] w (Ret (.bool (roomsB L)) (Grown w)):=by
 obtain⟨p,c,rfl,_⟩:=id hv.open
 refine callT_code rfl Tryz.func51 rfl Tryz.s51_eq rfl ?_
 delta Tryz.s51 zo zg zv zk
 simp -dsimp -implicitDefEqProofs (maxSteps:=2000000) (disch:=first|assumption|omega|simp only[nx];omega|(repeat apply zfp);assumption|simp only[smA];done|simp[oneCell,znp]) only[go_sem]
 apply callV_of (e:=rfl)
 . exact within_okV _ _ _ w
 rintro _ _ ⟨rfl,rfl⟩
 cases h1:inR 1 L.length 6 with
 | false =>
  simp -dsimp -implicitDefEqProofs (maxSteps:=2000000) (disch:=first|assumption|omega|simp only[nx];omega|(repeat apply zfp);assumption|simp only[smA];done|simp[oneCell,znp]) only[go_sem,h1]
  exact⟨by unfold roomsB;rw[h1];rfl,Grown.refl f⟩
 | true =>
  simp -dsimp -implicitDefEqProofs (maxSteps:=2000000) (disch:=first|assumption|omega|simp only[nx];omega|(repeat apply zfp);assumption|simp only[smA];done|simp[oneCell,znp]) only[go_sem,h1]
  apply callV_of (e:=rfl)
  . exact roomsBad_ok L _ w f hv
  rintro _ w1 ⟨rfl,g1⟩
  simp -dsimp -implicitDefEqProofs (maxSteps:=2000000) (disch:=first|assumption|omega|simp only[nx];omega|(repeat apply zfp);assumption|simp only[smA];done|simp[oneCell,znp]) only[go_sem]
  exact⟨by unfold roomsB;rw[h1];simp,g1⟩
theorem areGates_ok (L:List GateN) (v:Value) (m:Nat) (hm:m≤1000000) (w:AW) (f:Fresh w) (hv:GatesAt w v L) :
    CallT Tryz.prog Tryz.T1 (.fn (.func 52) #[]) #[v,.int .i64 (m:Int)] w (Ret (.bool (gatesB m L)) (Grown w)):=by
 have g1:=(Grown.refl f).push (.cells [.int .i64 (m:Int)] 3 w.next 0 0)
 have O1:=Own.new f 3 [.int .i64 (m:Int)]
 have hl:∃ p c,v=.slice p L.length c:=by
  obtain⟨ws,rfl,hA,_⟩:=hv
  obtain⟨p,c,rfl,_⟩:=hA.open
  exact⟨p,c,by simp⟩
 obtain⟨p,c,rfl⟩:=hl
 refine callT_code rfl Tryz.func52 rfl Tryz.s52_eq rfl ?_
 delta Tryz.s52 zo zg zv zk
 simp -dsimp -implicitDefEqProofs (maxSteps:=2000000) (disch:=first|assumption|omega|simp only[nx];omega|(repeat apply zfp);assumption|simp only[smA];done|simp[oneCell,znp]) only[go_sem]
 generalize w.push (.cells [.int .i64 (m:Int)] 3 w.next 0 0)=w1 at *
 by_cases h1:(L.length:Int)≤10
 case neg =>
  have hd:decide ((L.length:Int)≤10)=false:=decide_eq_false h1
  simp -dsimp -implicitDefEqProofs (maxSteps:=2000000) (disch:=first|assumption|omega|simp only[nx];omega|(repeat apply zfp);assumption|simp only[smA];done|simp[oneCell,znp]) only[go_sem,hd]
  exact⟨by unfold gatesB;rw[hd];rfl,g1⟩
 have hd:decide ((L.length:Int)≤10)=true:=decide_eq_true h1
 simp -dsimp -implicitDefEqProofs (maxSteps:=2000000) (disch:=first|assumption|omega|simp only[nx];omega|(repeat apply zfp);assumption|simp only[smA];done|simp[oneCell,znp]) only[go_sem,hd]
 apply callV_of (e:=rfl)
 . exact gatesBad_ok L _ m hm w.next w1 g1.2 O1 (hv.grown g1)
 rintro _ w2 ⟨rfl,g2⟩
 simp -dsimp -implicitDefEqProofs (maxSteps:=2000000) (disch:=first|assumption|omega|simp only[nx];omega|(repeat apply zfp);assumption|simp only[smA];done|simp[oneCell,znp]) only[go_sem,hd]
 exact⟨by unfold gatesB;rw[hd];simp,g1.trans g2⟩
theorem areStaff_ok (L:List Int) (v:Value) (w:AW) (hv:ArrOf w 1 icells v L):CallT Tryz.prog Tryz.T1 (.fn (.func 53) #[]) #[v] w (Ret (.bool (staffB L)) fun w'=>w=w'):=by
 obtain⟨p,c,rfl,_⟩:=id hv.open
 refine callT_code rfl Tryz.func53 rfl Tryz.s53_eq rfl ?_
 delta Tryz.s53 zo zg zv zk
 simp -dsimp -implicitDefEqProofs (maxSteps:=2000000) (disch:=first|assumption|omega|simp only[nx];omega|(repeat apply zfp);assumption|simp only[smA];done|simp[oneCell,znp]) only[go_sem]
 apply callV_of (e:=rfl)
 . exact within_okV _ _ _ w
 rintro _ _ ⟨rfl,rfl⟩
 cases h1:inR 2 L.length 6 with
 | false =>
  simp -dsimp -implicitDefEqProofs (maxSteps:=2000000) (disch:=first|assumption|omega|simp only[nx];omega|(repeat apply zfp);assumption|simp only[smA];done|simp[oneCell,znp]) only[go_sem,h1]
  exact⟨by unfold staffB;rw[h1];rfl,rfl⟩
 | true =>
  simp -dsimp -implicitDefEqProofs (maxSteps:=2000000) (disch:=first|assumption|omega|simp only[nx];omega|(repeat apply zfp);assumption|simp only[smA];done|simp[oneCell,znp]) only[go_sem,h1]
  apply callV_of (e:=rfl)
  . exact allKeys_ok L _ w hv
  rintro _ _ ⟨rfl,rfl⟩
  simp -dsimp -implicitDefEqProofs (maxSteps:=2000000) (disch:=first|assumption|omega|simp only[nx];omega|(repeat apply zfp);assumption|simp only[smA];done|simp[oneCell,znp]) only[go_sem]
  exact⟨by unfold staffB;rw[h1];rfl,rfl⟩
structure StrN where
 rooms:List RoomN
 gates:List GateN
 staff:List Int
def strC (pR pG pS:Option Addr) (cR cG cS:Nat) (s:StrN):List Value:=[.slice pR s.rooms.length cR,.slice pG s.gates.length cG,.slice pS s.staff.length cS]
structure StrAt (w:AW) (pR pG pS:Option Addr) (cR cG cS:Nat) (s:StrN):Prop where
 rooms:ArrOf w 3 rcells (.slice pR s.rooms.length cR) s.rooms
 gates:GatesAt w (.slice pG s.gates.length cG) s.gates
 staff:ArrOf w 1 icells (.slice pS s.staff.length cS) s.staff
theorem StrAt.grown {w w':AW} {pR pG pS:Option Addr} {cR cG cS:Nat} {s:StrN} (h:StrAt w pR pG pS cR cG cS s) (g:Grown w w'):StrAt w' pR pG pS cR cG cS s:=⟨h.rooms.grown g,h.gates.grown g,h.staff.grown g⟩
def strB (s:StrN):Bool:=roomsB s.rooms && (gatesB s.rooms.length s.gates && staffB s.staff)
def strE (s:StrN):Int:=if strB s then 0 else 40
theorem CheckV_ok (s:StrN) (pR pG pS:Option Addr) (cR cG cS:Nat) (w:AW) (f:Fresh w) (hs:StrAt w pR pG pS cR cG cS s) :
    CallT Tryz.prog Tryz.T1 (.fn (.func 17) #[]) #[.agg (strC pR pG pS cR cG cS s).toArray] w (Ret (.int .i64 (strE s)) (Grown w)):=by
 have g1:=(Grown.refl f).push (.cells (strC pR pG pS cR cG cS s) 26 w.next 0 0)
 have O1:=Own.new f 26 (strC pR pG pS cR cG cS s)
 have c0:=O1.cell (o:=0) rfl rfl
 have c1:=O1.cell (o:=1) rfl rfl
 have c2:=O1.cell (o:=2) rfl rfl
 have fin:∀ b,strB s=b->strE s=if b then 0 else 40:=fun b h=>by unfold strE;rw[h]
 unfold strC at *
 refine callT_code rfl Tryz.func17 rfl Tryz.s17_eq rfl ?_
 delta Tryz.s17 zo zg zv zk
 simp -dsimp -implicitDefEqProofs (maxSteps:=2000000) (disch:=first|assumption|omega|simp only[nx];omega|(repeat apply zfp);assumption|simp only[smA];done|simp[oneCell,znp]) only[go_sem,c0,c1,c2,Nat.zero_add]
 generalize w.push (.cells [.slice pR s.rooms.length cR,.slice pG s.gates.length cG,.slice pS s.staff.length cS] 26 w.next 0 0)=w1 at *
 apply callV_of (e:=rfl)
 . exact areRooms_ok s.rooms _ w1 g1.2 (hs.rooms.grown g1)
 rintro _ w2 ⟨rfl,g2⟩
 have gg2:=g1.trans g2
 have O2:=O1.keep g2.1
 have d0:=O2.cell (o:=0) rfl rfl
 have d1:=O2.cell (o:=1) rfl rfl
 have d2:=O2.cell (o:=2) rfl rfl
 cases h1:roomsB s.rooms with
 | false =>
  rw[fin false (by unfold strB;rw[h1];rfl)]
  simp -dsimp -implicitDefEqProofs (maxSteps:=2000000) (disch:=first|assumption|omega|simp only[nx];omega|(repeat apply zfp);assumption|simp only[smA];done|simp[oneCell,znp]) only[go_sem,h1]
  exact⟨rfl,gg2⟩
 | true =>
 have hrl:s.rooms.length≤6:=by
  unfold roomsB at h1
  rw[Bool.and_eq_true]at h1
  have:=(inR_iff _ _ _).1 h1.1;omega
 simp -dsimp -implicitDefEqProofs (maxSteps:=2000000) (disch:=first|assumption|omega|simp only[nx];omega|(repeat apply zfp);assumption|simp only[smA];done|simp[oneCell,znp]) only[go_sem,h1,d0,d1,d2,Nat.zero_add]
 apply callV_of (e:=rfl)
 . exact areGates_ok s.gates _ s.rooms.length (by omega) w2 gg2.2 (hs.gates.grown gg2)
 rintro _ w3 ⟨rfl,g3⟩
 have gg3:=gg2.trans g3
 have O3:=O2.keep g3.1
 have f2:=O3.cell (o:=2) rfl rfl
 cases h2:gatesB s.rooms.length s.gates with
 | false =>
  rw[fin false (by unfold strB;rw[h1,h2];rfl)]
  simp -dsimp -implicitDefEqProofs (maxSteps:=2000000) (disch:=first|assumption|omega|simp only[nx];omega|(repeat apply zfp);assumption|simp only[smA];done|simp[oneCell,znp]) only[go_sem,h2]
  exact⟨rfl,gg3⟩
 | true =>
 simp -dsimp -implicitDefEqProofs (maxSteps:=2000000) (disch:=first|assumption|omega|simp only[nx];omega|(repeat apply zfp);assumption|simp only[smA];done|simp[oneCell,znp]) only[go_sem,h2,f2,Nat.zero_add]
 apply callV_of (e:=rfl)
 . exact areStaff_ok s.staff _ w3 (hs.staff.grown gg3)
 rintro _ _ ⟨rfl,rfl⟩
 cases h3:staffB s.staff with
 | false =>
  rw[fin false (by unfold strB;rw[h1,h2,h3];rfl)]
  simp -dsimp -implicitDefEqProofs (maxSteps:=2000000) (disch:=first|assumption|omega|simp only[nx];omega|(repeat apply zfp);assumption|simp only[smA];done|simp[oneCell,znp]) only[go_sem,h3]
  exact⟨rfl,gg3⟩
 | true =>
  rw[fin true (by unfold strB;rw[h1,h2,h3];rfl)]
  simp -dsimp -implicitDefEqProofs (maxSteps:=2000000) (disch:=first|assumption|omega|simp only[nx];omega|(repeat apply zfp);assumption|simp only[smA];done|simp[oneCell,znp]) only[go_sem,h3]
  exact⟨rfl,gg3⟩
def Tryz.s55:SC:=(.seq (.ops false [zo 4 (.assign (.const (.bool false))) 4]) (.seq (.ops false [zo 5 (.move (zv 0)) 78,zo 6 (.move (zv 1)) 3,zo 7 (.binOp .shr 78 (zv 5) (zv 6) 3) 78,zo 8 (.binOp .and 78 (zv 7) (zk 1) 78) 78,zo 9 (.binOp .eql 78 (zv 8) (zk 1) 78) 4,zo 4 (.assign (zv 9)) 4]) .ret))
def Tryz.s162:SC:=(.seq (.ops false [zo 4 (.assign (.const (.bool false))) 4]) (.seq (.ops false [zo 5 (.move (zv 0)) 77,zo 6 (.move (zv 1)) 3,zo 7 (.binOp .shr 77 (zv 5) (zv 6) 3) 77,zo 8 (.binOp .and 77 (zv 7) (zk 1) 77) 77,zo 9 (.binOp .eql 77 (zv 8) (zk 1) 77) 4,zo 4 (.assign (zv 9)) 4]) .ret))
def Tryz.s131:SC:=(.seq (.ops false [zo 4 (.assign (.const (.bool false))) 4]) (.seq (.ops false [zo 5 (.move (zv 0)) 155,zo 6 (.move (zv 1)) 155,zo 7 (.binOp .and 155 (zv 5) (zv 6) 155) 155,zo 8 (.move (zv 1)) 155,zo 9 (.binOp .eql 155 (zv 7) (zv 8) 155) 4,zo 4 (.assign (zv 9)) 4]) .ret))
def Tryz.s100:SC:=(.seq (.ops false [zo 4 (.assign (.const (.bool false))) 4]) (.seq (.ops false [zo 5 (.move (zv 0)) 24,zo 6 (.move (zv 1)) 123,zo 7 (.call ⟨.value (.func 120),⟨[(zv 5),(zv 6)]⟩,⟨[24,123]⟩⟩) 3,zo 8 (.binOp .geq 3 (zv 7) (zk 0) 3) 4,zo 4 (.assign (zv 8)) 4]) .ret))
def Tryz.s120:SC:=(.seq (.ops false [zo 4 (.assign (zk 0)) 3]) (.seq (.seq (.ops false [zo 6 (.move (zv 0)) 24,zo 7 (.call ⟨.builtin .len,⟨[(zv 6)]⟩,⟨[24]⟩⟩) 3,zo 8 (.move (zk 0)) 3]) (.block 0 (.loop (.seq (.ops false [zo 9 (.binOp .lss 3 (zv 8) (zv 7) 3) 0]) (.seq (.cond (.tmp 9) .skip (.exit 0)) (.seq (.block 1 (.seq (.ops false [zo 10 (.move (zv 8)) 3,zo 5 (.assign (zv 10)) 3]) (.seq (.ops false [zo 11 (.move (zv 1)) 123,zo 12 (.move (zv 0)) 24,zo 13 (.move (zv 5)) 3,zo 14 (.indexAddr 24 (zv 12) (zv 13)) 0,zo 15 (.load 3 (zv 14)) 3,zo 16 (.call ⟨.value (zv 11),⟨[(zv 15)]⟩,⟨[3]⟩⟩) 4]) (.cond (.tmp 16) (.seq (.ops false [zo 17 (.move (zv 5)) 3,zo 4 (.assign (zv 17)) 3]) .ret) .skip)))) (.ops false [zo 18 (.binOp .add 3 (zv 8) (zk 1) 3) 3,zo 8 (.move (zv 18)) 3]))))))) (.seq (.ops false [zo 4 (.assign (.const (.int .i64 (-1)))) 3]) .ret)))
def Tryz.s130:SC:=(.seq (.ops false [zo 3 (.assign (.const (.bool false))) 4]) (.seq (.ops false [zo 4 (.load 155 (zv 1)) 155,zo 5 (.move (zv 0)) 3,zo 6 (.call ⟨.value (.func 131),⟨[(zv 4),(zv 5)]⟩,⟨[155,155]⟩⟩) 4,zo 3 (.assign (zv 6)) 4]) .ret))
def Tryz.s76:SC:=(.seq (.ops false [zo 2 (.box 26 (zv 0)) 0,zo 4 (.alloc 80) 0]) (.seq (.ops false [zo 5 (.load 26 (zv 2)) 26,zo 6 (.move (zv 1)) 77,zo 7 (.build 80 ⟨[(0,(zv 5)),(1,(zv 6)),(2,(zk 1))]⟩) 80,zon (.store 80 (zv 4) (zv 7)) 0]) .ret))
def Tryz.s77:SC:=(.seq (.ops false [zo 1 (.box 80 (zv 0)) 0,zo 2 (.assign (.const .nilFunc)) 121]) (.seq (.ops false [zo 3 (.makeFunc (.func 109) ⟨[]⟩ ⟨[(zv 1)]⟩) 120,zo 2 (.assign (zv 3)) 121]) .ret))
def Tryz.s110:SC:=(.seq (.ops false [zo 2 (.box 80 (zv 0)) 0,zo 3 (.box 71 (zv 1)) 0,zo 4 (.assign (.const (.bool false))) 4]) (.seq (.ops true [zt 5 (.fieldAddr 80 (zv 2) 2) 0,zt 6 (.load 78 (zv 5)) 78,zt 7 (.fieldAddr 71 (zv 3) 0) 0,zt 8 (.load 3 (zv 7)) 3,zt 10 (.fieldAddr 80 (zv 2) 2) 0,zt 11 (.load 78 (zv 10)) 78,zt 12 (.fieldAddr 71 (zv 3) 1) 0,zt 13 (.load 3 (zv 12)) 3,zt 9 (.call ⟨.value (.func 55),⟨[(zv 6),(zv 8)]⟩,⟨[78,3]⟩⟩) 4,zo 14 (.call ⟨.value (.func 55),⟨[(zv 11),(zv 13)]⟩,⟨[78,3]⟩⟩) 4,zt 15 (.binOp .neq 4 (zv 9) (zv 14) 4) 4,zt 4 (.assign (zv 15)) 4]) .ret))
def Tryz.s111:SC:=(.seq (.ops false [zo 2 (.box 80 (zv 0)) 0,zo 3 (.box 71 (zv 1)) 0,zo 4 (.assign (.const (.bool false))) 4]) (.seq (.ops false [zo 7 (.load 80 (zv 2)) 80,zo 8 (.call ⟨.value (.func 129),⟨[(zv 7)]⟩,⟨[80]⟩⟩) 155,zo 5 (.alloc 155) 0,zon (.store 155 (zv 5) (zv 8)) 0]) (.seq (.ops false [zo 9 (.makeFunc (.func 130) ⟨[]⟩ ⟨[(zv 5)]⟩) 123,zo 6 (.assign (zv 9)) 123]) (.seq (.ops true [zt 10 (.fieldAddr 80 (zv 2) 1) 0,zt 11 (.load 77 (zv 10)) 77,zt 13 (.fieldAddr 71 (zv 3) 2) 0,zt 14 (.load 3 (zv 13)) 3,zt 12 (.call ⟨.value (.func 98),⟨[(zv 11)]⟩,⟨[77]⟩⟩) 3,zt 15 (.binOp .geq 3 (zv 12) (zv 14) 3) 4,zt 16 (.move (zv 15)) 4,zh 17 (.fieldAddr 71 (zv 3) 3) 0 16 true,zh 18 (.load 24 (zv 17)) 24 16 true,zh 19 (.move (zv 6)) 123 16 true,zg 20 (.call ⟨.value (.func 100),⟨[(zv 18),(zv 19)]⟩,⟨[24,123]⟩⟩) 4 16 true,zt 21 (.pick (zv 16) (zv 20) (.const (.bool false))) 4,zt 4 (.assign (zv 21)) 4]) .ret))))
def Tryz.s152:SC:=(.seq (.ops false [zo 1 (.box 77 (zv 0)) 0,zo 2 (.assign (.const .nilFunc)) 179]) (.seq (.ops false [zo 3 (.makeFunc (.func 161) ⟨[]⟩ ⟨[(zv 1)]⟩) 178,zo 2 (.assign (zv 3)) 179]) .ret))
def Tryz.s153:SC:=(.seq (.ops false [zo 1 (.box 78 (zv 0)) 0,zo 2 (.assign (.const .nilFunc)) 179]) (.seq (.ops false [zo 3 (.makeFunc (.func 163) ⟨[]⟩ ⟨[(zv 1)]⟩) 178,zo 2 (.assign (zv 3)) 179]) .ret))
theorem Tryz.s55_eq:Tryz.f55.body.map sOf=some Tryz.s55:=by kernel_rfl
theorem Tryz.s162_eq:Tryz.f162.body.map sOf=some Tryz.s162:=by kernel_rfl
theorem Tryz.s131_eq:Tryz.f131.body.map sOf=some Tryz.s131:=by kernel_rfl
theorem Tryz.s100_eq:Tryz.f100.body.map sOf=some Tryz.s100:=by kernel_rfl
theorem Tryz.s120_eq:Tryz.f120.body.map sOf=some Tryz.s120:=by kernel_rfl
theorem Tryz.s130_eq:Tryz.f130.body.map sOf=some Tryz.s130:=by kernel_rfl
theorem Tryz.s76_eq:Tryz.f76.body.map sOf=some Tryz.s76:=by kernel_rfl
theorem Tryz.s77_eq:Tryz.f77.body.map sOf=some Tryz.s77:=by kernel_rfl
theorem Tryz.s110_eq:Tryz.f110.body.map sOf=some Tryz.s110:=by kernel_rfl
theorem Tryz.s111_eq:Tryz.f111.body.map sOf=some Tryz.s111:=by kernel_rfl
theorem Tryz.s152_eq:Tryz.f152.body.map sOf=some Tryz.s152:=by kernel_rfl
theorem Tryz.s153_eq:Tryz.f153.body.map sOf=some Tryz.s153:=by kernel_rfl
theorem ofInt_nat (a:Nat):BitVec.ofInt 64 (a:Int)=BitVec.ofNat 64 a:=by
 apply BitVec.eq_of_toNat_eq
 simp[BitVec.toNat_ofInt]
theorem and_key {a b:Nat} (ha:a < 4611686018427387904) (hb:b < 4611686018427387904):(BitVec.ofInt 64 (a:Int) &&& BitVec.ofInt 64 (b:Int)).toNat=a &&& b:=by
 rw[ofInt_nat,ofInt_nat,BitVec.toNat_and,BitVec.toNat_ofNat,BitVec.toNat_ofNat,Nat.mod_eq_of_lt (by omega),Nat.mod_eq_of_lt (by omega)]
theorem or_key {a b:Nat} (ha:a < 4611686018427387904) (hb:b < 4611686018427387904):(BitVec.ofInt 64 (a:Int) ||| BitVec.ofInt 64 (b:Int)).toNat=a ||| b:=by
 rw[ofInt_nat,ofInt_nat,BitVec.toNat_or,BitVec.toNat_ofNat,BitVec.toNat_ofNat,Nat.mod_eq_of_lt (by omega),Nat.mod_eq_of_lt (by omega)]
theorem and_nat {a b:Nat} (ha:a < 4611686018427387904) (hb:b < 4611686018427387904):IntKind.i64.wrap ((BitVec.ofInt IntKind.i64.bits (a:Int) &&& BitVec.ofInt IntKind.i64.bits (b:Int)).toNat:Int)=((a &&& b:Nat):Int):=by
 show IntKind.i64.wrap (((BitVec.ofInt 64 (a:Int) &&& BitVec.ofInt 64 (b:Int)).toNat:Nat):Int)=_
 rw[and_key ha hb]
 have:a &&& b≤a:=Nat.and_le_left
 exact wrap64 (by omega) (by omega)
theorem or_nat {a b:Nat} (ha:a < 4611686018427387904) (hb:b < 4611686018427387904):IntKind.i64.wrap ((BitVec.ofInt IntKind.i64.bits (a:Int) ||| BitVec.ofInt IntKind.i64.bits (b:Int)).toNat:Int)=((a ||| b:Nat):Int):=by
 show IntKind.i64.wrap (((BitVec.ofInt 64 (a:Int) ||| BitVec.ofInt 64 (b:Int)).toNat:Nat):Int)=_
 rw[or_key ha hb]
 have:a ||| b < 2 ^ 62:=Nat.or_lt_two_pow (by omega) (by omega)
 exact wrap64 (by omega) (by omega)
theorem bit_is (x k:Nat):decide (((x / 2 ^ k &&& 1:Nat):Int)=1)=x.testBit k:=by
 rw[Nat.testBit,Nat.shiftRight_eq_div_pow,Nat.and_comm 1,Nat.and_one_is_mod]
 have:=Nat.mod_two_eq_zero_or_one (x / 2 ^ k)
 rcases this with h|h <;> rw[h] <;> rfl
theorem has_ok (x k:Nat) (hx:x < 256) (hk:k≤8) (w:AW):CallT Tryz.prog Tryz.T1 (.fn (.func 55) #[]) #[.int .i64 (x:Int),.int .i64 (k:Int)] w (Ret (.bool (x.testBit k)) fun w'=>w=w'):=by
 have h0:¬ (k:Int) < 0:=by omega
 have hm:min k 64=k:=by omega
 have hsh:(x:Int).fdiv (2 ^ (min k 64))=((x / 2 ^ k:Nat):Int):=by
  rw[hm,Int.fdiv_eq_ediv_of_nonneg _ (by exact Int.pow_nonneg (by omega))]
  push_cast;rfl
 have hle:x / 2 ^ k≤x:=Nat.div_le_self _ _
 have han:=and_nat (a:=x / 2 ^ k) (b:=1) (by omega) (by omega)
 have hbi:=bit_is x k
 refine callT_code rfl Tryz.func55 rfl Tryz.s55_eq rfl ?_
 delta Tryz.s55 zo zv zk
 simp -dsimp -implicitDefEqProofs (maxSteps:=2000000) (disch:=first|assumption|omega|simp only[nx];omega|(repeat apply zfp);assumption|simp only[smA];done|simp[oneCell,znp]) only[go_sem,h0,hsh]
 rw[show ((1:Nat):Int)=1 from rfl]at han
 rw[han,hbi]
 exact⟨rfl,rfl⟩
theorem hasP_ok (x k:Nat) (hx:x < 256) (hk:k≤8) (w:AW):CallT Tryz.prog Tryz.T1 (.fn (.func 162) #[]) #[.int .i64 (x:Int),.int .i64 (k:Int)] w (Ret (.bool (x.testBit k)) fun w'=>w=w'):=by
 have h0:¬ (k:Int) < 0:=by omega
 have hm:min k 64=k:=by omega
 have hsh:(x:Int).fdiv (2 ^ (min k 64))=((x / 2 ^ k:Nat):Int):=by
  rw[hm,Int.fdiv_eq_ediv_of_nonneg _ (by exact Int.pow_nonneg (by omega))]
  push_cast;rfl
 have hle:x / 2 ^ k≤x:=Nat.div_le_self _ _
 have han:=and_nat (a:=x / 2 ^ k) (b:=1) (by omega) (by omega)
 have hbi:=bit_is x k
 refine callT_code rfl Tryz.func162 rfl Tryz.s162_eq rfl ?_
 delta Tryz.s162 zo zv zk
 simp -dsimp -implicitDefEqProofs (maxSteps:=2000000) (disch:=first|assumption|omega|simp only[nx];omega|(repeat apply zfp);assumption|simp only[smA];done|simp[oneCell,znp]) only[go_sem,h0,hsh]
 rw[show ((1:Nat):Int)=1 from rfl]at han
 rw[han,hbi]
 exact⟨rfl,rfl⟩
def subB (x p:Nat):Bool:=decide (x &&& p=p)
theorem contains_ok (x p:Nat) (hx:x < 256) (hp:p < 256) (w:AW):CallT Tryz.prog Tryz.T1 (.fn (.func 131) #[]) #[.int .i64 (x:Int),.int .i64 (p:Int)] w (Ret (.bool (subB x p)) fun w'=>w=w'):=by
 have han:=and_nat (a:=x) (b:=p) (by omega) (by omega)
 have hd:decide (((x &&& p:Nat):Int)=(p:Int))=subB x p:=by unfold subB;rw[decide_eq_decide];omega
 refine callT_code rfl Tryz.func131 rfl Tryz.s131_eq rfl ?_
 delta Tryz.s131 zo zv
 simp -dsimp -implicitDefEqProofs (maxSteps:=2000000) (disch:=first|assumption|omega|simp only[nx];omega|(repeat apply zfp);assumption|simp only[smA];done|simp[oneCell,znp]) only[go_sem,han,hd]
 exact⟨rfl,rfl⟩
theorem fits_ok (held p:Nat) (hh:held < 256) (hp:p < 256) (b:Nat) (w:AW) (f:Fresh w) (hb:Own w b 155 [.int .i64 (held:Int)]) :
    CallT Tryz.prog Tryz.T1 (.fn (.func 130) #[.pointer (some ⟨b,0,none⟩)]) #[.int .i64 (p:Int)] w (Ret (.bool (subB held p)) fun w'=>w=w'):=by
 have c0:=hb.cell (o:=0) rfl rfl
 refine callT_code rfl Tryz.func130 rfl Tryz.s130_eq rfl ?_
 delta Tryz.s130 zo zv
 simp -dsimp -implicitDefEqProofs (maxSteps:=2000000) (disch:=first|assumption|omega|simp only[nx];omega|(repeat apply zfp);assumption|simp only[smA];done|simp[oneCell,znp]) only[go_sem,c0]
 apply callV_of (e:=rfl)
 . exact contains_ok held p hh hp w
 rintro _ _ ⟨rfl,rfl⟩
 simp -dsimp -implicitDefEqProofs (maxSteps:=2000000) (disch:=first|assumption|omega|simp only[nx];omega|(repeat apply zfp);assumption|simp only[smA];done|simp[oneCell,znp]) only[go_sem]
 exact⟨rfl,rfl⟩
def natsL (l:List Nat):List Int:=l.map fun (n:Nat)=>(n:Int)
theorem ways_idx (held:Nat) (hh:held < 256) (L:List Nat) (hL:∀ x ∈ L,x < 256) (v:Value) (b:Nat) (w:AW) (f:Fresh w) (hb:Own w b 155 [.int .i64 (held:Int)]) (hv:ArrOf w 1 icells v (natsL L)) :
    CallT Tryz.prog Tryz.T1 (.fn (.func 120) #[]) #[v,.func (.func 130) #[] #[.pointer (some ⟨b,0,none⟩)]] w (fun r w'=>w=w'/\∃ n:Int,r=.int .i64 n/\(n ≥ 0↔L.any (subB held)=true)/\-1≤n/\n≤1000000000000000):=by
 obtain⟨p,c,rfl,hc1,hc2,hat⟩:=hv.open
 have hl:(natsL L).length=L.length:=by simp[natsL]
 rw[hl]
 rw[hl]at hc1
 refine callT_code rfl Tryz.func120 rfl Tryz.s120_eq rfl ?_
 delta Tryz.s120 zo zv zk
 simp -dsimp -implicitDefEqProofs (maxSteps:=2000000) (disch:=first|assumption|omega|simp only[nx];omega|(repeat apply zfp);assumption|simp only[smA];done|simp[oneCell,znp]) only[go_sem]
 refine loopR (fun k t ds w1=>∃ i:Nat,i≤L.length/\k=L.length - i/\ds=[]/\ev t (.tmp 0)=.slice p L.length c/\ev t (.tmp 1)=.func (.func 130) #[] #[.pointer (some ⟨b,0,none⟩)]/\ev t (.tmp 7)=.int .i64 (L.length:Int)/\ev t (.tmp 8)=.int .i64 (i:Int)/\(L.take i).any (subB held)=false/\w=w1) (L.length) ?_ ?_
 . refine⟨0,by omega,by omega,rfl,?_,?_,?_,?_,rfl,rfl⟩ <;> simp -dsimp -implicitDefEqProofs (maxSteps:=2000000) (disch:=first|assumption|omega|simp only[nx];omega|(repeat apply zfp);assumption|simp only[smA];done|simp[oneCell,znp]) only[go_sem] <;> rfl
 rintro k t ds w1 ⟨i,hii,rfl,rfl,e0,e1,e7,e8,hno,hw⟩
 subst hw
 by_cases hlt:(i:Int) < (L.length:Int)
 case neg =>
  obtain rfl:i=L.length:=by omega
  rw[List.take_length]at hno
  simp -dsimp -implicitDefEqProofs (maxSteps:=2000000) (disch:=first|assumption|omega|simp only[nx];omega|(repeat apply zfp);assumption|simp only[smA];done|simp[oneCell,znp]) only[go_sem,e0,e1,e7,e8,hlt]
  exact⟨trivial,-1,rfl,by rw[hno];simp,by omega,by omega⟩
 have hlt':i < L.length:=by omega
 obtain⟨b1,o1,rfl,_,hcell⟩:=hat i (by omega)
 have a0:=hcell w (.refl _ _) 0 _ rfl
 have hget:(natsL L)[i]'(by omega)=(L[i]:Int):=by simp[natsL]
 rw[Nat.add_zero,hget]at a0
 have hsucc:(L.take (i+1)).any (subB held)=subB held L[i]:=by
  rw[List.take_add_one,List.getElem?_eq_getElem hlt',List.any_append,hno];simp
 have hLi:=hL _ (List.getElem_mem hlt')
 simp -dsimp -implicitDefEqProofs (maxSteps:=2000000) (disch:=first|assumption|omega|simp only[nx];omega|(repeat apply zfp);assumption|simp only[smA];done|simp[oneCell,znp]) only[go_sem,e0,e1,e7,e8,hlt,indexV_eq,a0]
 apply callV_of (e:=rfl)
 . exact fits_ok held L[i] hh hLi b w f hb
 rintro _ _ ⟨rfl,rfl⟩
 cases hk:subB held L[i] with
 | true =>
  have hT:L.any (subB held)=true:=List.any_eq_true.2 ⟨_,List.getElem_mem hlt',hk⟩
  simp -dsimp -implicitDefEqProofs (maxSteps:=2000000) (disch:=first|assumption|omega|simp only[nx];omega|(repeat apply zfp);assumption|simp only[smA];done|simp[oneCell,znp]) only[go_sem,e0,e1,e7,e8,hk]
  exact⟨trivial,i,rfl,⟨fun _=>hT,fun _=>by omega⟩,by omega,by omega⟩
 | false =>
  simp -dsimp -implicitDefEqProofs (maxSteps:=2000000) (disch:=first|assumption|omega|simp only[nx];omega|(repeat apply zfp);assumption|simp only[smA];done|simp[oneCell,znp]) only[go_sem,e0,e1,e7,e8,hk]
  refine⟨_,by omega,i+1,by omega,rfl,rfl,by(simp only[go_sem,e0];try rfl),by(simp only[go_sem,e1];try rfl),by(simp only[go_sem,e7];try rfl),by(simp only[go_sem,e8];try rfl),(by rw[hsucc,hk]),rfl⟩
theorem ways_any (held:Nat) (hh:held < 256) (L:List Nat) (hL:∀ x ∈ L,x < 256) (v:Value) (b:Nat) (w:AW) (f:Fresh w) (hb:Own w b 155 [.int .i64 (held:Int)]) (hv:ArrOf w 1 icells v (natsL L)) :
    CallT Tryz.prog Tryz.T1 (.fn (.func 100) #[]) #[v,.func (.func 130) #[] #[.pointer (some ⟨b,0,none⟩)]] w (Ret (.bool (L.any (subB held))) fun w'=>w=w'):=by
 refine callT_code rfl Tryz.func100 rfl Tryz.s100_eq rfl ?_
 delta Tryz.s100 zo zv zk
 simp -dsimp -implicitDefEqProofs (maxSteps:=2000000) (disch:=first|assumption|omega|simp only[nx];omega|(repeat apply zfp);assumption|simp only[smA];done|simp[oneCell,znp]) only[go_sem]
 apply callV_of (e:=rfl)
 . exact ways_idx held hh L hL v b w f hb hv
 rintro _ _ ⟨rfl,n,rfl,hn,hn1,hn2⟩
 cases hq:L.any (subB held) with
 | true =>
  have hge:n ≥ 0:=hn.2 hq
  simp -dsimp -implicitDefEqProofs (maxSteps:=2000000) (disch:=first|assumption|omega|simp only[nx];omega|(repeat apply zfp);assumption|simp only[smA];done|simp[oneCell,znp]) only[go_sem,hge]
  exact⟨rfl,rfl⟩
 | false =>
  have hge:¬ n ≥ 0:=fun z=>by rw[hn.1 z]at hq;cases hq
  simp -dsimp -implicitDefEqProofs (maxSteps:=2000000) (disch:=first|assumption|omega|simp only[nx];omega|(repeat apply zfp);assumption|simp only[smA];done|simp[oneCell,znp]) only[go_sem,hge]
  exact⟨rfl,rfl⟩
def tourC (pR pG pS:Option Addr) (cR cG cS:Nat) (s:StrN) (g r:Nat):List Value:=[.slice pR s.rooms.length cR,.slice pG s.gates.length cG,.slice pS s.staff.length cS,.int .i64 (g:Int),.int .i64 (r:Int)]
theorem leadsOn_ok (s:StrN) (g r:Nat) (hr:r < 256) (A B:Nat) (hA:A≤8) (hB:B≤8) (need:Int) (x:Value) (hx:oneCell x=true) (pR pG pS:Option Addr) (cR cG cS:Nat) (w:AW) (f:Fresh w) :
    CallT Tryz.prog Tryz.T1 (.fn (.func 110) #[]) #[.agg (tourC pR pG pS cR cG cS s g r).toArray,.agg #[.int .i64 (A:Int),.int .i64 (B:Int),.int .i64 need,x]] w (Ret (.bool (r.testBit A != r.testBit B)) (Grown w)):=by
 have g1:=(Grown.refl f).push (.cells (tourC pR pG pS cR cG cS s g r) 80 w.next 0 0)
 have O1:=Own.new f 80 (tourC pR pG pS cR cG cS s g r)
 have g2:=g1.push (.cells [.int .i64 (A:Int),.int .i64 (B:Int),.int .i64 need,x] 71 (w.next+1) 0 0)
 have O2:=Own.new g1.2 71 [.int .i64 (A:Int),.int .i64 (B:Int),.int .i64 need,x]
 rw[AW.next_push]at O2
 have O1':=O1.push (.cells [.int .i64 (A:Int),.int .i64 (B:Int),.int .i64 need,x] 71 (w.next+1) 0 0)
 unfold tourC at *
 have c4:=O1'.cell (o:=4) rfl rfl
 have d0:=O2.cell (o:=0) rfl rfl
 have d1:=O2.cell (o:=1) rfl rfl
 have nb:∀ a b:Bool,eqQ Tryz.prog .neq 4 (.bool a) (.bool b)=some (.bool (a != b)):=fun a b=>by cases a <;> cases b <;> kernel_rfl
 have hbb:∀ a b:Bool,binQ .neq (.bool a) (.bool b)=none:=fun a b=>rfl
 refine callT_code rfl Tryz.func110 rfl Tryz.s110_eq rfl ?_
 delta Tryz.s110 zo zt zv
 simp -dsimp -implicitDefEqProofs (maxSteps:=2000000) (disch:=first|assumption|omega|simp only[nx];omega|(repeat apply zfp);assumption|simp only[smA];done|simp[oneCell,znp]) only[go_sem,c4,d0,d1,Nat.zero_add]
 generalize (w.push (.cells [.slice pR s.rooms.length cR,.slice pG s.gates.length cG,.slice pS s.staff.length cS,.int .i64 (g:Int),.int .i64 (r:Int)] 80 w.next 0 0)).push (.cells [.int .i64 (A:Int),.int .i64 (B:Int),.int .i64 need,x] 71 (w.next+1) 0 0)=w3 at *
 have hle3:WLe w3 w3:=(Grown.refl g2.2).1.wle g2.2
 apply callV_of (e:=rfl)
 . exact has_ok r A hr hA w3
 rintro _ _ ⟨rfl,rfl⟩
 simp -dsimp -implicitDefEqProofs (maxSteps:=2000000) (disch:=first|assumption|omega|simp only[nx];omega|(repeat apply zfp);assumption|simp only[smA];done|simp[oneCell,znp]) only[go_sem,hle3,c4,d1,Nat.zero_add]
 apply callV_of (e:=rfl)
 . exact has_ok r B hr hB w3
 rintro _ _ ⟨rfl,rfl⟩
 have hn:=nb (r.testBit A) (r.testBit B)
 have hbn:=hbb (r.testBit A) (r.testBit B)
 simp -dsimp -implicitDefEqProofs (maxSteps:=2000000) (disch:=first|assumption|omega|simp only[nx];omega|(repeat apply zfp);assumption|simp only[smA];done|simp[oneCell,znp]) only[go_sem,hle3,hn,hbn]
 exact⟨rfl,g2⟩
theorem Tryz.und77:Tryz.prog.underlying 77=some (.int .i64):=by kernel_rfl
theorem Tryz.und78:Tryz.prog.underlying 78=some (.int .i64):=by kernel_rfl
theorem Tryz.und150:Tryz.prog.underlying 150=some (.int .u64):=by kernel_rfl
theorem Tryz.cv77 (v:Value):convQ (prg Tryz.prog) 77 150 v=convI .u64 v:=convQ_of Tryz.und77 Tryz.und150 v
theorem Tryz.cv78 (v:Value):convQ (prg Tryz.prog) 78 150 v=convI .u64 v:=convQ_of Tryz.und78 Tryz.und150 v
theorem Tryz.fc77 (t:Tmps) (w:AW) (x:Operand):fast (prg Tryz.prog) t w (.convert 77 150 x)=none:=by simp only[fast,Tryz.ty77]
theorem Tryz.fc78 (t:Tmps) (w:AW) (x:Operand):fast (prg Tryz.prog) t w (.convert 78 150 x)=none:=by simp only[fast,Tryz.ty78]
attribute [go_sem] Tryz.cv77 Tryz.cv78 Tryz.fc77 Tryz.fc78
theorem len_ok (x:Nat) (h:x < 64) (w:AW):CallT Tryz.prog Tryz.T1 (.fn (.func 116) #[]) #[.int .u64 (x:Int)] w (Ret (.int .i64 (lenN x:Int)) fun w'=>w=w'):=by
 refine callT_told (v:=.int .i64 (lenN x:Int)) (w':=w) ?_ ⟨rfl,rfl⟩
 show (match tabArg Tryz.lenTab [.int Tryz.lenTab.k (x:Int)] with|some x=>some (Tryz.lenTab.g x,w)|none=>none)=_
 rw[tabArg_at (s:=Tryz.lenTab) (.inr rfl) h]
 rfl
theorem size_ok (x:Nat) (h:x < 64) (w:AW):CallT Tryz.prog Tryz.T1 (.fn (.func 98) #[]) #[.int .i64 (x:Int)] w (Ret (.int .i64 (popN x:Int)) fun w'=>w=w'):=by
 refine callT_told (v:=.int .i64 (popN x:Int)) (w':=w) ?_ ⟨rfl,rfl⟩
 show (match tabArg Tryz.popTab [.int Tryz.popTab.k (x:Int)] with|some x=>some (Tryz.popTab.g x,w)|none=>none)=_
 rw[tabArg_at (s:=Tryz.popTab) (.inl rfl) h]
 rfl
def Tryz.s161:SC:=(.seq (.ops false [zo 4 (.load 77 (zv 1)) 77,zo 5 (.convert 77 150 (zv 4)) 150,zo 6 (.call ⟨.value (.func 116),⟨[(zv 5)]⟩,⟨[150]⟩⟩) 3,zo 7 (.move (zk 0)) 3]) (.block 0 (.loop (.seq (.ops false [zo 8 (.binOp .lss 3 (zv 7) (zv 6) 3) 4]) (.seq (.cond (.tmp 8) .skip (.exit 0)) (.seq (.block 1 (.seq (.ops false [zo 9 (.move (zv 7)) 3,zo 3 (.assign (zv 9)) 3]) (.seq (.ops false [zo 10 (.load 77 (zv 1)) 77,zo 11 (.move (zv 3)) 3,zo 12 (.call ⟨.value (.func 162),⟨[(zv 10),(zv 11)]⟩,⟨[77,3]⟩⟩) 4,zo 13 (.move (zv 12)) 4,zg 14 (.move (zv 0)) 123 13 true,zg 15 (.move (zv 3)) 3 13 true,zg 16 (.call ⟨.value (zv 14),⟨[(zv 15)]⟩,⟨[3]⟩⟩) 4 13 true,zg 17 (.unOp .not 4 (zv 16)) 4 13 true,zo 18 (.pick (zv 13) (zv 17) (.const (.bool false))) 4]) (.cond (.tmp 18) .ret .skip)))) (.ops false [zo 19 (.binOp .add 3 (zv 7) (zk 1) 3) 3,zo 7 (.move (zv 19)) 3])))))))
def Tryz.s163:SC:=(.seq (.ops false [zo 4 (.load 78 (zv 1)) 78,zo 5 (.convert 78 150 (zv 4)) 150,zo 6 (.call ⟨.value (.func 116),⟨[(zv 5)]⟩,⟨[150]⟩⟩) 3,zo 7 (.move (zk 0)) 3]) (.block 0 (.loop (.seq (.ops false [zo 8 (.binOp .lss 3 (zv 7) (zv 6) 3) 4]) (.seq (.cond (.tmp 8) .skip (.exit 0)) (.seq (.block 1 (.seq (.ops false [zo 9 (.move (zv 7)) 3,zo 3 (.assign (zv 9)) 3]) (.seq (.ops false [zo 10 (.load 78 (zv 1)) 78,zo 11 (.move (zv 3)) 3,zo 12 (.call ⟨.value (.func 55),⟨[(zv 10),(zv 11)]⟩,⟨[78,3]⟩⟩) 4,zo 13 (.move (zv 12)) 4,zg 14 (.move (zv 0)) 123 13 true,zg 15 (.move (zv 3)) 3 13 true,zg 16 (.call ⟨.value (zv 14),⟨[(zv 15)]⟩,⟨[3]⟩⟩) 4 13 true,zg 17 (.unOp .not 4 (zv 16)) 4 13 true,zo 18 (.pick (zv 13) (zv 17) (.const (.bool false))) 4]) (.cond (.tmp 18) .ret .skip)))) (.ops false [zo 19 (.binOp .add 3 (zv 7) (zk 1) 3) 3,zo 7 (.move (zv 19)) 3])))))))
theorem Tryz.s161_eq:Tryz.f161.body.map sOf=some Tryz.s161:=by kernel_rfl
theorem Tryz.s163_eq:Tryz.f163.body.map sOf=some Tryz.s163:=by kernel_rfl
end Go.Proofs
