/- Calls told from tables; what the machine is told of this program. -/
import Derived.Test.YtnbfkakjdifcpaaGreatMc
import Derived.Carry
import Derived.ChangeAt
import Derived.RowKit
import Derived.JoinedOf
import Derived.Test.YtnbfkakjdifcpaaGreatNc
import Derived.Test.YtnbfkakjdifcpaaGreatProg
set_option linter.unusedVariables false
set_option linter.unusedSimpArgs false
namespace Go.Sim
open Go Go.RowKit
section
variable {P:Program} {H:Type} {enc:TypeId × Value->H} {W:World}
theorem trodAll_beneath (hl:laidOutB P=true) {W':World} (hb:Below W.heap.size W W'):∀ {ts:List TypeId} {vs:List Value} {ds:List (DataW H)} {ps:List MemPlace},(∀ t ∈ ts,P.readableRec t=true/\t < P.types.size) ->
    DataW.TrodAll enc P W 0 (fun _=>true) true ts vs ds ps->(∀ x ∈ ps,x.block < W.heap.size)->DataW.TrodAll enc P W' 0 (fun b=>decide (b < W.heap.size)) true ts vs ds ps
 | [],[],[],ps,_,h,_=>h
 | t :: ts,v :: vs,d :: ds,ps,hts,h,hlt=>by
  obtain⟨p,q,h1,h2,rfl⟩:=h
  have ht:=hts t List.mem_cons_self
  exact ⟨p,q,Below.trod hl ht.1 ht.2 h1 hb (fun x hx=>hlt x (List.mem_append_left _ hx)),
   trodAll_beneath hl hb (fun t ht=>hts t (List.mem_cons_of_mem _ ht)) h2 (fun x hx=>hlt x (List.mem_append_right _ hx)),rfl⟩
 | [],_ :: _,_,_,_,h,_=>by simp[DataW.TrodAll]at h
 | _ :: _,[],_,_,_,h,_=>by simp[DataW.TrodAll]at h
 | [],[],_ :: _,_,_,h,_=>by simp[DataW.TrodAll]at h
 | _ :: _,_ :: _,[],_,_,h,_=>by simp[DataW.TrodAll]at h
theorem trodAll_many {ts:List TypeId} {vs:List Value} {ds:List (DataW H)} {ps:List MemPlace} {b:Nat} {sp:Nat->Bool} {hd:Bool} (h:DataW.TrodAll enc P W b sp hd ts vs ds ps):ds.length=ts.length:=by
 induction ts generalizing vs ds ps with
 | nil=>cases vs <;> cases ds <;> simp_all [DataW.TrodAll]
 | cons t ts ih =>
  cases vs with
  | nil=>simp[DataW.TrodAll]at h
  | cons v vs=>cases ds with
   | nil=>simp[DataW.TrodAll]at h
   | cons d ds =>
    obtain⟨p,q,_,h2,_⟩:=h
    simp[ih h2]
theorem law_closed (hl:laidOutB P=true) {fn:Func} {f:FuncId} {s:ChangeSpec} (hvars:s.vars=[]) (hps:fn.params = #[]) {tb:TypeId} (hres:fn.resultTypes = #[tb]) (htb:P.underlying tb=some .bool)
    (hspec:∀ ds:List (DataW H),ds.length=fn.params.size->(s.fn H (ds++[])).results=[.lit (.bool true)]/\(s.fn H (ds++[])).args=ds/\(s.fn H (ds++[])).vars=[])
    (law:∀ W,Calls P f #[] W fun e W'=>e=.returned (.bool true)/\Below W.heap.size W W')
    {args:Array Value} {ds gs:List (DataW H)} {before:List MemPlace} (hW:DataW.Whole enc P fn.params.toList s.vars false W args.toList ds gs before) :
    Calls P f args W fun e W'=>∃ v,e=.returned v/\ChangeSpec.post enc P fn s false true false false W args v W':=by
 have hWlt:=hW.lt
 have hW0:=hW
 obtain⟨p,q,hA,hV,rfl,_,_⟩:=hW
 rw[hvars]at hV
 have hq:q=[]/\gs=[]:=by
  cases gs with
  | nil=>exact⟨hV,rfl⟩
  | cons g gs=>simp[DataW.TrodVars]at hV
 obtain⟨rfl,rfl⟩:=hq
 have hargs:args = #[]:=by
  rw[hps]at hA
  generalize hv:args.toList=vs at hA
  cases vs with
  | nil=>exact Array.ext' hv
  | cons v vs=>simp[DataW.TrodAll]at hA
 subst hargs
 refine (law W).mono ?_
 rintro e W' ⟨rfl,hb⟩
 obtain⟨s1,s2,s3⟩:=hspec ds (by rw[trodAll_many hA];simp)
 refine⟨_,rfl,ds,[],p++[],[],p,[],hW0,?_,?_,?_,hb.frame _,fun h=>by cases h⟩
 . rw[s1,hres]
   exact⟨[],[],shut_bool htb true,rfl,rfl⟩
 . rw[s2]
   exact trodAll_beneath hl hb (fun t ht=>by rw[hps]at ht;cases ht) hA fun x hx=>hWlt x (by simpa using hx)
 . rw[s3,hvars];rfl
end
end Go.Sim

namespace Go.Sim
open Go Go.RowKit
variable {P:Program} {N F:Nat}
def isVal (r:CR) (v:Value):Bool :=
 match r with
 | .ret u _=>same 12 v u
 | _=>false
end Go.Sim

namespace Go.Sim
open Go Go.RowKit
variable {P:Program} {N F:Nat}
inductive GDat where
 | flat (v:Value)
 | sl (n c:Nat) (cells:List GDat)
 | agg (ds:List GDat)
def matchCells (m:GDat->Value->Bool) (w:AW) (b:Nat):List GDat->Nat->Bool
 | [],_=>true
 | d :: l,o=>match w.cell? ⟨b,o,none⟩ with
  | some u=>m d u && matchCells m w b l (o+1)
  | none=>false
def matchAll (m:GDat->Value->Bool):List GDat->List Value->Bool
 | [],[]=>true
 | d :: l,v :: r=>m d v && matchAll m l r
 | _,_=>false
def zeroZ (w:AW) (b:Nat):Bool :=
 match w.blk b with
 | some (.cells _ _ _ _ 0)|some (.given _)=>true
 | _=>false
def matchV (w:AW):Nat->GDat->Value->Bool
 | 0,_,_=>false
 | k+1,d,v=>match d,v with
  | .flat u,v=>flat 6 u && same 12 u v
  | .sl n c cells,.slice (some ⟨b,o,none⟩) n' c'=>Nat.beq n n' && Nat.beq c c' && Nat.blt 0 c && zeroZ w b && matchCells (matchV w k) w b cells o
  | .agg ds,.agg cs=>matchAll (matchV w k) ds cs.toList
  | _,_=>false
def giveAll (g:GDat->AW->Value × AW):List GDat->AW->List Value × AW
 | [],w=>([],w)
 | d :: l,w=>match g d w with
  | (u,w1)=>match giveAll g l w1 with
   | (us,w2)=>(u :: us,w2)
def giveV:Nat->GDat->AW->Value × AW
 | 0,_,w=>(undef,w)
 | k + 1,d,w=>match d with
  | .flat u=>(u,w)
  | .sl n c cells=>match giveAll (giveV k) cells w with
   | (us,w1)=>(.slice (some ⟨w1.next,0,none⟩) n c,w1.push (.given us))
  | .agg ds=>match giveAll (giveV k) ds w with
   | (us,w1)=>(.agg us.toArray,w1)
def GiveOk (W:World) (m:GDat->Value->Bool) (g:GDat->AW->Value × AW) (σ:Emb):Prop :=
 ∀ d v v',m d v=true->VRel σ v v'->∀ (σ0:Emb) (w0:AW),WRel W.heap.size σ0 w0 W->∃ σ1:Emb,σ0.le σ1/\WRel W.heap.size σ1 (g d w0).2 W/\VRel σ1 (g d w0).1 v'
theorem giveAll_ok {W:World} {m:GDat->Value->Bool} {g:GDat->AW->Value × AW} {σ:Emb} (h:GiveOk W m g σ):∀ (ds:List GDat) (vs vs':List Value),matchAll m ds vs=true->LRel σ vs vs'->∀ (σ0:Emb) (w0:AW),WRel W.heap.size σ0 w0 W ->
    ∃ σ1:Emb,σ0.le σ1/\WRel W.heap.size σ1 (giveAll g ds w0).2 W/\LRel σ1 (giveAll g ds w0).1 vs'
 | [],[],vs',_,hr,σ0,w0,hw=>by
  cases hr
  exact⟨σ0,.refl _,hw,.nil⟩
 | d :: l,v :: r,vs',hm,hr,σ0,w0,hw=>by
  cases hr with
  | cons h1 h2 =>
   simp only[matchAll,Bool.and_eq_true]at hm
   obtain⟨σ1,a1,a2,a3⟩:=h d v _ hm.1 h1 σ0 w0 hw
   obtain⟨σ2,b1,b2,b3⟩:=giveAll_ok h l r _ hm.2 h2 σ1 _ a2
   exact⟨σ2,a1.trans b1,b2,.cons (a3.mono b1) b3⟩
 | [],_ :: _,_,h,_,_,_,_=>by simp[matchAll]at h
 | _ :: _,[],_,h,_,_,_,_=>by simp[matchAll]at h
theorem cells_list {W:World} {w:AW} {σ:Emb} {N:Nat} (hw:WRel N σ w W) {m:GDat->Value->Bool} {b:Nat} {x:Loc} (hb:σ b=some x):∀ (ds:List GDat) (o:Nat),matchCells m w b ds o=true ->
    ∃ vs vs':List Value,matchAll m ds vs=true/\LRel σ vs vs'/\vs'.length=ds.length/\∀ (i:Nat) u,vs'[i]? = some u->W.cell? ⟨x.c,x.s+(o+i),none⟩=some u
 | [],o,_=>⟨[],[],rfl,.nil,rfl,fun i u h=>by simp at h⟩
 | d :: l,o,h=>by
  simp only[matchCells]at h
  split at h
  case h_2=>cases h
  rename_i u hu
  simp only[Bool.and_eq_true]at h
  obtain⟨u',h1,h2,_⟩:=hw.cell hb hu
  obtain⟨vs,vs',a1,a2,a3,a4⟩:=cells_list hw hb l (o+1) h.2
  refine⟨u :: vs,u' :: vs',by simp only[matchAll,Bool.and_eq_true];exact⟨h.1,a1⟩,.cons h2 a2,by simp[a3],fun i q hq=>?_⟩
  cases i with
  | zero=>simp at hq;subst hq;exact h1
  | succ i=>simp at hq;have:=a4 i q hq;rw[show o+(i+1)=o+1+i by omega];exact this
theorem give_ok {W:World} {w:AW} {σ:Emb} (hw:WRel N σ w W):∀ k,GiveOk W (matchV w k) (giveV k) σ
 | 0=>fun d v v' h=>by simp[matchV]at h
 | k + 1 => by
  have ih:=give_ok hw k
  intro d v v' hm hr σ0 w0 h0
  unfold matchV at hm
  split at hm
  . rename_i u
    simp only[Bool.and_eq_true]at hm
    have:=same_eq 12 _ _ hm.2
    subst this
    have e:=flat_eq 6 _ hm.1 σ v' hr
    subst e
    exact⟨σ0,.refl _,h0,flat_self 6 _ hm.1 σ0⟩
  · rename_i n c cells b o n' c'
    simp only[Bool.and_eq_true]at hm
    obtain⟨⟨⟨⟨h1,h2⟩,h5⟩,h3⟩,h4⟩:=hm
    obtain rfl:=Nat.eq_of_beq_eq_true h1
    obtain rfl:=Nat.eq_of_beq_eq_true h2
    have hzx:∀ x,σ b=some x->x.z=0:=by
     intro x hx
     obtain⟨_,q,hq,hl,hb⟩:=hw.dom b x hx
     unfold zeroZ at h3
     rw[hq]at h3
     cases q with
     | cells c0 e0 r0 b0 z0 =>
      split at h3
      . rename_i e;injection e with e;injection e with _ _ _ _ e;subst e;exact hb.1
      . rename_i e;injection e with e;cases e
      . cases h3
     | given c0=>exact hl.1
     | _=>simp at h3
    cases hr with
    | slice hx hk hcap =>
     rename_i k' x
     have hz:=hzx x hx
     have hkk:k'=c:=by rcases hcap with q|q;exact q;omega
     subst hkk
     obtain⟨vs,vs',b1,b2,b3,b4⟩:=cells_list hw hx cells o h4
     obtain⟨σ1,a1,a2,a3⟩:=giveAll_ok ih cells vs vs' b1 b2 σ0 w0 h0
     simp only[giveV]
     have hlen:=a3.length
     refine⟨σ1.with (giveAll (giveV k) cells w0).2.next ⟨x.c,x.s+o,0,0⟩,a1.trans (Emb.le_with a2.fresh _),WRel.give a2 _ _ rfl ?_ ?_,?_⟩
     · cases hv:(giveAll (giveV k) cells w0).1 with
       | nil=>exact .inl rfl
       | cons y ys =>
        right
        rw[hv]at hlen
        have h1:=b4 0 (vs'[0]'(by rw[<- hlen];simp)) (by simp)
        obtain⟨cc,ce,fr,q,_⟩:=cell_at h1
        rcases Nat.lt_or_ge x.c W.heap.size with q'|q'
        . exact q'
        . rw[Array.getElem?_eq_none q']at q;cases q
     . intro i u hi hone
       obtain⟨u',hu',r⟩:=a3.getSome hi
       obtain⟨cc,ce,fr,q,q2⟩:=cell_at (b4 i u' hu')
       exact⟨cc,ce,fr,u',q,by rw[show x.s+o+i=x.s+(o+i) by omega];exact q2,r⟩
     . exact VRel.slice (x:=⟨x.c,x.s+o,0,0⟩) (o:=0) (Emb.with_self _ _ _) (Nat.le_refl _) (.inl rfl)
    | tail hx a=>exact absurd (Nat.blt_eq.mp h5) (by omega)
  · rename_i ds cs
    cases hr with
    | agg ha hav =>
     rename_i cs'
     have hl:LRel σ cs.toList cs'.toList:=ARel.iff.1 (by exact⟨ha,hav⟩)
     obtain⟨σ1,a1,a2,a3⟩:=giveAll_ok ih ds cs.toList cs'.toList hm hl σ0 w0 h0
     exact⟨σ1,a1,a2,VRel.agg_of (ARel.iff.2 (by simpa [giveV] using a3))⟩
  . cases hm
theorem calls_give (hP:Fit P) (hfol:P.follows .mixedOrders=true) {told:ToldF} (ht:∀ N,ToldOk P N told) {n k:Nat} {f:FuncId} {ds:List GDat} {v:Value} (hno:(told f ((giveAll (giveV k) ds .empty).1.toArray++#[]) (giveAll (giveV k) ds .empty).2).isNone=true) (hv:flat 6 v=true)
    (h:isVal (xcall (prg P) (xsOf (prg P)) told F (n+1) (.fn (.func f) #[]) (giveAll (giveV k) ds .empty).1 (giveAll (giveV k) ds .empty).2) v=true) {N:Nat} {σ:Emb} {w:AW} {W:World} (hw:WRel N σ w W) {args args':List Value} (hm:matchAll (matchV w k) ds args=true) (hr:LRel σ args args') :
    Calls P f args'.toArray W fun e W'=>e=.returned v/\BelowD W.heap.size W W':=by
 obtain⟨σ0,_,g2,g3⟩:=giveAll_ok (give_ok hw k) ds args args' hm hr (fun _=>none) .empty (WRel.empty W)
 generalize (giveAll (giveV k) ds .empty).1=us at *
 generalize (giveAll (giveV k) ds .empty).2=w0 at *
 rw[xcall_eq hP.funcs]at h
 unfold isVal at h
 split at h
 case h_2=>cases h
 rename_i u w1 hr'
 have hu:=same_eq 12 _ _ h
 subst hu
 simp only[acall]at hr'
 rw[Option.isNone_iff_eq_none.mp hno]at hr'
 simp only[Array.append_empty]at hr'
 intro cs
 have ha:ARel σ0 us.toArray args'.toArray:=ARel.iff.2 (by simpa using g3)
 obtain⟨σ',v',W',fr,s,hf,hlv,e,r⟩:=enter_leaves hP hfol (call_ok hP hfol (ht W.heap.size) n) (call_pan hP hfol (ht W.heap.size) n) hr' cs g2 (args':=args'.toArray) ha
 have:=flat_eq 6 v hv σ' v' r
 subst this
 exact⟨.returned v',W',fr,⟨rfl,e.below⟩,s,hf,hlv⟩
structure GMemo where
 f:FuncId
 k:Nat
 ds:List GDat
 val:Value
def findG (f:FuncId) (args:List Value) (w:AW):List GMemo->Option Value
 | []=>none
 | m :: l=>match Nat.beq f m.f with
  | true=>match matchAll (matchV w m.k) m.ds args with
   | true=>some m.val
   | false=>findG f args w l
  | false=>findG f args w l
def toldGive (tab:List GMemo) (told:ToldF):ToldF:=fun f args w =>
 match findG f args.toList w tab with
 | some v=>some (v,w)
 | none=>told f args w
structure GMemoOk (P:Program) (m:GMemo):Prop where
 enters:∀ args w,(callFunc m.f args).run P w=.ok (.enter m.f args) w
 flatVal:flat 6 m.val=true
 calls:∀ (N:Nat) (σ:Emb) (w:AW) (W:World),WRel N σ w W->∀ args args',matchAll (matchV w m.k) m.ds args=true->LRel σ args args'->Calls P m.f args'.toArray W fun e W'=>e=.returned m.val/\BelowD W.heap.size W W'
inductive GMemosOk (P:Program):List GMemo->Prop where
 | nil:GMemosOk P []
 | cons {m:GMemo} {l:List GMemo} (h:GMemoOk P m) (t:GMemosOk P l):GMemosOk P (m :: l)
theorem findG_ok {f:FuncId} {args:List Value} {w:AW} {v:Value}:∀ {tab:List GMemo},GMemosOk P tab->findG f args w tab=some v->∃ m,GMemoOk P m/\m.f=f/\matchAll (matchV w m.k) m.ds args=true/\m.val=v
 | _,.nil,h=>by cases h
 | _, .cons hm ht,h=>by
  simp only[findG]at h
  split at h
  · rename_i hf
    split at h
    . rename_i hs
      injection h with h
      exact⟨_,hm,(Nat.eq_of_beq_eq_true hf).symm,hs,h⟩
    . exact findG_ok ht h
  . exact findG_ok ht h
theorem toldGive_ok {tab:List GMemo} (hm:GMemosOk P tab) {told:ToldF} (ht:∀ N,ToldOk P N told) (N:Nat):ToldOk P N (toldGive tab told):=by
 intro f args w w1 v h σ W args0 cap c cs hw ha
 unfold toldGive at h
 split at h
 . rename_i u hu
   injection h with h;injection h with h1 h2
   subst h1 h2
   obtain⟨m,hok,rfl,hargs,rfl⟩:=findG_ok hm hu
   have hc:=hok.calls N σ w W hw args.toList (args0++cap).toList hargs (ARel.iff.1 ha)
   rw[show (args0++cap).toList.toArray=args0++cap from rfl]at hc
   obtain⟨W',d1,d2⟩:=delivers_calls hok.enters hc c cs
   exact⟨σ,_,W',d1,hw.aside d2,flat_self 6 _ hok.flatVal σ⟩
 . exact ht N f args w w1 v h σ W args0 cap c cs hw ha
end Go.Sim

namespace Go.Sim
open Go Go.RowKit
variable {P:Program} {N F:Nat}
def flatz:Nat->Value->Bool
 | 0,_=>false
 | n+1,v=>match v with
  | .bool _|.int _ _|.string _=>true
  | .slice none 0 0=>true
  | .agg cs=>flatzs n cs.toList
  | .tuple cs=>flatzs n cs.toList
  | _=>false
where
 flatzs (n:Nat):List Value->Bool
  | []=>true
  | v :: l=>flatz n v && flatzs n l
theorem flatzs_rel {n:Nat} (ih:∀ v,flatz n v=true->∀ σ u,VRel σ v u->u=v):∀ {l:List Value},flatz.flatzs n l=true->∀ σ l',LRel σ l l'->l'=l
 | [],_,_,_,.nil=>rfl
 | v :: l,h,σ,_,.cons hv ht=>by
  simp only[flatz.flatzs,Bool.and_eq_true]at h
  rw[ih v h.1 σ _ hv,flatzs_rel ih h.2 σ _ ht]
theorem flatz_eq:∀ (n:Nat) (v:Value),flatz n v=true->∀ σ u,VRel σ v u->u=v
 | 0,v,h,_,_,_=>by simp[flatz]at h
 | n + 1,v,h,σ,u,r=>by
  unfold flatz at h
  split at h
  . cases r;rfl
  . cases r;rfl
  . cases r;rfl
  . cases r;rfl
  · cases r with
    | agg ha hav =>
     have:=flatzs_rel (flatz_eq n) h σ _ (ARel.iff.1 ⟨ha,hav⟩)
     exact congrArg Value.agg (Array.ext' this)
  · cases r with
    | unit=>rfl
    | tuple ha hav =>
     have:=flatzs_rel (flatz_eq n) h σ _ (ARel.iff.1 ⟨ha,hav⟩)
     exact congrArg Value.tuple (Array.ext' this)
  . cases h
theorem flatzs_self {n:Nat} (ih:∀ v,flatz n v=true->∀ σ,VRel σ v v):∀ {l:List Value},flatz.flatzs n l=true->∀ σ,LRel σ l l
 | [],_,_=>.nil
 | v :: l,h,σ=>by
  simp only[flatz.flatzs,Bool.and_eq_true]at h
  exact .cons (ih v h.1 σ) (flatzs_self ih h.2 σ)
theorem flatz_self:∀ (n:Nat) (v:Value),flatz n v=true->∀ σ,VRel σ v v
 | 0,v,h,_=>by simp[flatz]at h
 | n+1,v,h,σ=>by
  unfold flatz at h
  split at h
  . exact .bool _
  . exact .int _ _
  . exact .string _
  . exact .sliceNil
  . exact .agg_of (ARel.iff.2 (flatzs_self (flatz_self n) h σ))
  . exact .tuple_of (ARel.iff.2 (flatzs_self (flatz_self n) h σ))
  . cases h
inductive GDatY where
 | flat (v:Value)
 | sl (n c:Nat) (cells:List GDatY)
 | agg (ds:List GDatY)
def matchCellsY (m:GDatY->Value->Bool) (w:AW) (b:Nat):List GDatY->Nat->Bool
 | [],_=>true
 | d :: l,o=>match w.cell? ⟨b,o,none⟩ with
  | some u=>m d u && matchCellsY m w b l (o+1)
  | none=>false
def matchAllY (m:GDatY->Value->Bool):List GDatY->List Value->Bool
 | [],[]=>true
 | d :: l,v :: r=>m d v && matchAllY m l r
 | _,_=>false
def matchVY (w:AW):Nat->GDatY->Value->Bool
 | 0,_,_=>false
 | k+1,d,v=>match d,v with
  | .flat u,v=>flatz 6 u && same 12 u v
  | .sl n c cells,.slice (some ⟨b,o,none⟩) n' c'=>Nat.beq n n' && Nat.beq c c' && Nat.blt 0 c && zeroZ w b && matchCellsY (matchVY w k) w b cells o
  | .agg ds,.agg cs=>matchAllY (matchVY w k) ds cs.toList
  | _,_=>false
def giveAllY (g:GDatY->AW->Value × AW):List GDatY->AW->List Value × AW
 | [],w=>([],w)
 | d :: l,w=>match g d w with
  | (u,w1)=>match giveAllY g l w1 with
   | (us,w2)=>(u :: us,w2)
def giveVY:Nat->GDatY->AW->Value × AW
 | 0,_,w=>(undef,w)
 | k + 1,d,w=>match d with
  | .flat u=>(u,w)
  | .sl n c cells=>match giveAllY (giveVY k) cells w with
   | (us,w1)=>(.slice (some ⟨w1.next,0,none⟩) n c,w1.push (.given us))
  | .agg ds=>match giveAllY (giveVY k) ds w with
   | (us,w1)=>(.agg us.toArray,w1)
def GiveOkY (W:World) (m:GDatY->Value->Bool) (g:GDatY->AW->Value × AW) (σ:Emb):Prop :=
 ∀ d v v',m d v=true->VRel σ v v'->∀ (σ0:Emb) (w0:AW),WRel W.heap.size σ0 w0 W->∃ σ1:Emb,σ0.le σ1/\WRel W.heap.size σ1 (g d w0).2 W/\VRel σ1 (g d w0).1 v'
theorem giveAll_okY {W:World} {m:GDatY->Value->Bool} {g:GDatY->AW->Value × AW} {σ:Emb} (h:GiveOkY W m g σ):∀ (ds:List GDatY) (vs vs':List Value),matchAllY m ds vs=true->LRel σ vs vs'->∀ (σ0:Emb) (w0:AW),WRel W.heap.size σ0 w0 W ->
    ∃ σ1:Emb,σ0.le σ1/\WRel W.heap.size σ1 (giveAllY g ds w0).2 W/\LRel σ1 (giveAllY g ds w0).1 vs'
 | [],[],vs',_,hr,σ0,w0,hw=>by
  cases hr
  exact⟨σ0,.refl _,hw,.nil⟩
 | d :: l,v :: r,vs',hm,hr,σ0,w0,hw=>by
  cases hr with
  | cons h1 h2 =>
   simp only[matchAllY,Bool.and_eq_true]at hm
   obtain⟨σ1,a1,a2,a3⟩:=h d v _ hm.1 h1 σ0 w0 hw
   obtain⟨σ2,b1,b2,b3⟩:=giveAll_okY h l r _ hm.2 h2 σ1 _ a2
   exact⟨σ2,a1.trans b1,b2,.cons (a3.mono b1) b3⟩
 | [],_ :: _,_,h,_,_,_,_=>by simp[matchAllY]at h
 | _ :: _,[],_,h,_,_,_,_=>by simp[matchAllY]at h
theorem cells_listY {W:World} {w:AW} {σ:Emb} {N:Nat} (hw:WRel N σ w W) {m:GDatY->Value->Bool} {b:Nat} {x:Loc} (hb:σ b=some x):∀ (ds:List GDatY) (o:Nat),matchCellsY m w b ds o=true ->
    ∃ vs vs':List Value,matchAllY m ds vs=true/\LRel σ vs vs'/\vs'.length=ds.length/\∀ (i:Nat) u,vs'[i]? = some u->W.cell? ⟨x.c,x.s+(o+i),none⟩=some u
 | [],o,_=>⟨[],[],rfl,.nil,rfl,fun i u h=>by simp at h⟩
 | d :: l,o,h=>by
  simp only[matchCellsY]at h
  split at h
  case h_2=>cases h
  rename_i u hu
  simp only[Bool.and_eq_true]at h
  obtain⟨u',h1,h2,_⟩:=hw.cell hb hu
  obtain⟨vs,vs',a1,a2,a3,a4⟩:=cells_listY hw hb l (o+1) h.2
  refine⟨u :: vs,u' :: vs',by simp only[matchAllY,Bool.and_eq_true];exact⟨h.1,a1⟩,.cons h2 a2,by simp[a3],fun i q hq=>?_⟩
  cases i with
  | zero=>simp at hq;subst hq;exact h1
  | succ i=>simp at hq;have:=a4 i q hq;rw[show o+(i+1)=o+1+i by omega];exact this
theorem give_okY {W:World} {w:AW} {σ:Emb} (hw:WRel N σ w W):∀ k,GiveOkY W (matchVY w k) (giveVY k) σ
 | 0=>fun d v v' h=>by simp[matchVY]at h
 | k + 1 => by
  have ih:=give_okY hw k
  intro d v v' hm hr σ0 w0 h0
  unfold matchVY at hm
  split at hm
  . rename_i u
    simp only[Bool.and_eq_true]at hm
    have:=same_eq 12 _ _ hm.2
    subst this
    have e:=flatz_eq 6 _ hm.1 σ v' hr
    subst e
    exact⟨σ0,.refl _,h0,flatz_self 6 _ hm.1 σ0⟩
  · rename_i n c cells b o n' c'
    simp only[Bool.and_eq_true]at hm
    obtain⟨⟨⟨⟨h1,h2⟩,h5⟩,h3⟩,h4⟩:=hm
    obtain rfl:=Nat.eq_of_beq_eq_true h1
    obtain rfl:=Nat.eq_of_beq_eq_true h2
    have hzx:∀ x,σ b=some x->x.z=0:=by
     intro x hx
     obtain⟨_,q,hq,hl,hb⟩:=hw.dom b x hx
     unfold zeroZ at h3
     rw[hq]at h3
     cases q with
     | cells c0 e0 r0 b0 z0 =>
      split at h3
      . rename_i e;injection e with e;injection e with _ _ _ _ e;subst e;exact hb.1
      . rename_i e;injection e with e;cases e
      . cases h3
     | given c0=>exact hl.1
     | _=>simp at h3
    cases hr with
    | slice hx hk hcap =>
     rename_i k' x
     have hz:=hzx x hx
     have hkk:k'=c:=by rcases hcap with q|q;exact q;omega
     subst hkk
     obtain⟨vs,vs',b1,b2,b3,b4⟩:=cells_listY hw hx cells o h4
     obtain⟨σ1,a1,a2,a3⟩:=giveAll_okY ih cells vs vs' b1 b2 σ0 w0 h0
     simp only[giveVY]
     have hlen:=a3.length
     refine⟨σ1.with (giveAllY (giveVY k) cells w0).2.next ⟨x.c,x.s+o,0,0⟩,a1.trans (Emb.le_with a2.fresh _),WRel.give a2 _ _ rfl ?_ ?_,?_⟩
     · cases hv:(giveAllY (giveVY k) cells w0).1 with
       | nil=>exact .inl rfl
       | cons y ys =>
        right
        rw[hv]at hlen
        have h1:=b4 0 (vs'[0]'(by rw[<- hlen];simp)) (by simp)
        obtain⟨cc,ce,fr,q,_⟩:=cell_at h1
        rcases Nat.lt_or_ge x.c W.heap.size with q'|q'
        . exact q'
        . rw[Array.getElem?_eq_none q']at q;cases q
     . intro i u hi hone
       obtain⟨u',hu',r⟩:=a3.getSome hi
       obtain⟨cc,ce,fr,q,q2⟩:=cell_at (b4 i u' hu')
       exact⟨cc,ce,fr,u',q,by rw[show x.s+o+i=x.s+(o+i) by omega];exact q2,r⟩
     . exact VRel.slice (x:=⟨x.c,x.s+o,0,0⟩) (o:=0) (Emb.with_self _ _ _) (Nat.le_refl _) (.inl rfl)
    | tail hx a=>exact absurd (Nat.blt_eq.mp h5) (by omega)
  · rename_i ds cs
    cases hr with
    | agg ha hav =>
     rename_i cs'
     have hl:LRel σ cs.toList cs'.toList:=ARel.iff.1 (by exact⟨ha,hav⟩)
     obtain⟨σ1,a1,a2,a3⟩:=giveAll_okY ih ds cs.toList cs'.toList hm hl σ0 w0 h0
     exact⟨σ1,a1,a2,VRel.agg_of (ARel.iff.2 (by simpa [giveVY] using a3))⟩
  . cases hm
theorem calls_giveY (hP:Fit P) (hfol:P.follows .mixedOrders=true) {told:ToldF} (ht:∀ N,ToldOk P N told) {n k:Nat} {f:FuncId} {ds:List GDatY} {v:Value} (hno:(told f ((giveAllY (giveVY k) ds .empty).1.toArray++#[]) (giveAllY (giveVY k) ds .empty).2).isNone=true) (hv:flatz 6 v=true)
    (h:isVal (xcall (prg P) (xsOf (prg P)) told F (n+1) (.fn (.func f) #[]) (giveAllY (giveVY k) ds .empty).1 (giveAllY (giveVY k) ds .empty).2) v=true) {N:Nat} {σ:Emb} {w:AW} {W:World} (hw:WRel N σ w W) {args args':List Value} (hm:matchAllY (matchVY w k) ds args=true) (hr:LRel σ args args') :
    Calls P f args'.toArray W fun e W'=>e=.returned v/\BelowD W.heap.size W W':=by
 obtain⟨σ0,_,g2,g3⟩:=giveAll_okY (give_okY hw k) ds args args' hm hr (fun _=>none) .empty (WRel.empty W)
 generalize (giveAllY (giveVY k) ds .empty).1=us at *
 generalize (giveAllY (giveVY k) ds .empty).2=w0 at *
 rw[xcall_eq hP.funcs]at h
 unfold isVal at h
 split at h
 case h_2=>cases h
 rename_i u w1 hr'
 have hu:=same_eq 12 _ _ h
 subst hu
 simp only[acall]at hr'
 rw[Option.isNone_iff_eq_none.mp hno]at hr'
 simp only[Array.append_empty]at hr'
 intro cs
 have ha:ARel σ0 us.toArray args'.toArray:=ARel.iff.2 (by simpa using g3)
 obtain⟨σ',v',W',fr,s,hf,hlv,e,r⟩:=enter_leaves hP hfol (call_ok hP hfol (ht W.heap.size) n) (call_pan hP hfol (ht W.heap.size) n) hr' cs g2 (args':=args'.toArray) ha
 have:=flatz_eq 6 v hv σ' v' r
 subst this
 exact⟨.returned v',W',fr,⟨rfl,e.below⟩,s,hf,hlv⟩
structure GMemoY where
 f:FuncId
 k:Nat
 ds:List GDatY
 val:Value
structure GMemoOkY (P:Program) (m:GMemoY):Prop where
 enters:∀ args w,(callFunc m.f args).run P w=.ok (.enter m.f args) w
 flatVal:flatz 6 m.val=true
 calls:∀ (N:Nat) (σ:Emb) (w:AW) (W:World),WRel N σ w W->∀ args args',matchAllY (matchVY w m.k) m.ds args=true->LRel σ args args'->Calls P m.f args'.toArray W fun e W'=>e=.returned m.val/\BelowD W.heap.size W W'
def quickOneY (d:GDatY) (v:Value):Bool :=
 match d with
 | .flat (.int _ a)=>match v with
  | .int _ b=>intEq a b
  | _=>true
 | _=>true
def quickMY:List GDatY->List Value->Bool
 | d :: l,v :: r=>match quickOneY d v with
  | true=>quickMY l r
  | false=>false
 | _,_=>true
def findQY (args:List Value) (w:AW):List GMemoY->Option Value
 | []=>none
 | m :: l=>match quickMY m.ds args with
  | true=>match matchAllY (matchVY w m.k) m.ds args with
   | true=>some m.val
   | false=>findQY args w l
  | false=>findQY args w l
def findGrpY (f:FuncId):List (FuncId × List GMemoY)->List GMemoY
 | []=>[]
 | (g,tab) :: l=>match Nat.beq f g with
  | true=>tab
  | false=>findGrpY f l
def toldGrpY (gs:List (FuncId × List GMemoY)) (told:ToldF):ToldF:=fun f args w =>
 match findQY args.toList w (findGrpY f gs) with
 | some v=>some (v,w)
 | none=>told f args w
inductive GrpOkY (P:Program) (f:FuncId):List GMemoY->Prop where
 | nil:GrpOkY P f []
 | cons {m:GMemoY} {l:List GMemoY} (e:m.f=f) (h:GMemoOkY P m) (t:GrpOkY P f l):GrpOkY P f (m :: l)
inductive GrpsOkY (P:Program):List (FuncId × List GMemoY)->Prop where
 | nil:GrpsOkY P []
 | cons {f:FuncId} {tab:List GMemoY} {l:List (FuncId × List GMemoY)} (h:GrpOkY P f tab) (t:GrpsOkY P l):GrpsOkY P ((f,tab) :: l)
theorem findGrp_okY {f:FuncId}:∀ {gs:List (FuncId × List GMemoY)},GrpsOkY P gs->GrpOkY P f (findGrpY f gs)
 | _,.nil=>.nil
 | _, .cons h t=>by
  simp only[findGrpY]
  split
  . rename_i hf
    rw[Nat.eq_of_beq_eq_true hf];exact h
  . exact findGrp_okY t
theorem findQ_okY {f:FuncId} {args:List Value} {w:AW} {v:Value}:∀ {tab:List GMemoY},GrpOkY P f tab->findQY args w tab=some v->∃ m,GMemoOkY P m/\m.f=f/\matchAllY (matchVY w m.k) m.ds args=true/\m.val=v
 | _,.nil,h=>by cases h
 | _, .cons e hm ht,h=>by
  simp only[findQY]at h
  split at h
  · split at h
    . rename_i hs
      injection h with h
      exact⟨_,hm,e,hs,h⟩
    . exact findQ_okY ht h
  . exact findQ_okY ht h
theorem toldGrp_okY {gs:List (FuncId × List GMemoY)} (hm:GrpsOkY P gs) {told:ToldF} (ht:∀ N,ToldOk P N told) (N:Nat):ToldOk P N (toldGrpY gs told):=by
 intro f args w w1 v h σ W args0 cap c cs hw ha
 unfold toldGrpY at h
 split at h
 . rename_i u hu
   injection h with h;injection h with h1 h2
   subst h1 h2
   obtain⟨m,hok,rfl,hargs,rfl⟩:=findQ_okY (findGrp_okY hm) hu
   have hc:=hok.calls N σ w W hw args.toList (args0++cap).toList hargs (ARel.iff.1 ha)
   rw[show (args0++cap).toList.toArray=args0++cap from rfl]at hc
   obtain⟨W',d1,d2⟩:=delivers_calls hok.enters hc c cs
   exact⟨σ,_,W',d1,hw.aside d2,flatz_self 6 _ hok.flatVal σ⟩
 . exact ht N f args w w1 v h σ W args0 cap c cs hw ha
end Go.Sim

namespace Go.Proofs
open Go Go.Shelf Go.RowKit Go.Sim
set_option maxRecDepth 1000000
theorem Tryz.fits:Fit Tryz.prog:=fit_of (by decide +kernel)
theorem Tryz.mixed:Tryz.prog.follows .mixedOrders=true:=by decide +kernel
theorem Tryz.told0 (N:Nat):ToldOk Tryz.prog N (fun _ _ _=>none):=fun f args w w1 v h=>by cases h
end Go.Proofs
