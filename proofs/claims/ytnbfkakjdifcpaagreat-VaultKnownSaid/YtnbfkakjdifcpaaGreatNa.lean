/- Open calls of the machine, part 1: what holds with enough fuel, rule by rule; the code of a function, stripped. -/
import Derived.Test.YtnbfkakjdifcpaaGreatMc
set_option linter.unusedVariables false
set_option linter.unusedSimpArgs false
namespace Go.Sim
open Go Go.RowKit
section
variable (P:Program) (told:ToldF)
def CallT (t:Target) (args:Array Value) (w:AW) (Q:Value->AW->Prop):Prop :=
 ∃ N v w',(∀ F n,N≤F->N≤n->acall (prg P) told F n t args w=.ret v w')/\Q v w'
def OpsT (ops:Array Oper) (l:List Oper) (t:Tmps) (w:AW) (Q:Tmps->AW->Prop):Prop :=
 ∃ N t' w',(∀ F n,N≤F->N≤n->aops (prg P) (acall (prg P) told F n) ops l t w=.ok t' w')/\Q t' w'
def EffT (o:Oper) (t:Tmps) (w:AW) (Q:Tmps->AW->Prop):Prop :=
 ∃ N t' w',(∀ F n,N≤F->N≤n->effect (prg P) (acall (prg P) told F n) o t w=.ok t' w')/\Q t' w'
def CodeT (env:Env) (c:Code) (t:Tmps) (ds:List DI) (w:AW) (Q:Ex->Tmps->List DI->AW->Prop):Prop :=
 ∃ N e t' ds' w',(∀ F n m,N≤F->N≤n->N≤m->acode (prg P) (acall (prg P) told F n) env m c t ds w=.go e t' ds' w')/\Q e t' ds' w'
variable {P told}
theorem CallT.mono {t:Target} {args:Array Value} {w:AW} {Q R:Value->AW->Prop} (h:CallT P told t args w Q) (k:∀ v w',Q v w'->R v w'):CallT P told t args w R :=
 let ⟨N,v,w',a,b⟩:=h;⟨N,v,w',a,k _ _ b⟩
theorem CodeT.mono {env:Env} {c:Code} {t:Tmps} {ds:List DI} {w:AW} {Q R:Ex->Tmps->List DI->AW->Prop} (h:CodeT P told env c t ds w Q) (k:∀ e t' ds' w',Q e t' ds' w'->R e t' ds' w'):CodeT P told env c t ds w R :=
 let ⟨N,e,t',ds',w',a,b⟩:=h;⟨N,e,t',ds',w',a,k _ _ _ _ b⟩
theorem OpsT.mono {ops:Array Oper} {l:List Oper} {t:Tmps} {w:AW} {Q R:Tmps->AW->Prop} (h:OpsT P told ops l t w Q) (k:∀ t' w',Q t' w'->R t' w'):OpsT P told ops l t w R :=
 let ⟨N,t',w',a,b⟩:=h;⟨N,t',w',a,k _ _ b⟩
end
end Go.Sim

namespace Go.Sim
open Go Go.RowKit
def WLe (w w':AW):Prop:=∀ b x,w.blk b=some x->w'.blk b=some x
theorem WLe.refl (w:AW):WLe w w:=fun _ _ h=>h
theorem WLe.trans {a b c:AW} (h:WLe a b) (k:WLe b c):WLe a c:=fun i x e=>k i x (h i x e)
theorem WLe.cell {w w':AW} (h:WLe w w') {a:Addr} {v:Value} (hv:w.cell? a=some v):w'.cell? a=some v:=by
 unfold AW.cell? at hv ⊢
 split at hv
 . rename_i b o
   cases hb:w.blk b with
   | none=>simp[hb]at hv
   | some x=>rw[h b x hb];rw[hb]at hv;exact hv
 . cases hv
theorem WLe.cells {w w':AW} (h:WLe w w'):∀ {n b o:Nat} {l:List Value},aCells w b o n=some l->aCells w' b o n=some l
 | 0,_,_,_,e=>e
 | n+1,b,o,l,e=>by
  simp only[aCells]at e ⊢
  split at e
  case h_2=>cases e
  rename_i v hv
  rw[h.cell hv]
  split at e
  case h_2=>cases e
  rename_i l' hl
  simp only[h.cells hl]
  exact e
theorem WLe.load {w w':AW} (h:WLe w w') {agg:Bool} {n:Nat} {a v:Value} (e:loadV w agg n a=some v):loadV w' agg n a=some v:=by
 unfold loadV at e ⊢
 split at e
 case h_2=>cases e
 cases agg with
 | false=>exact h.cell e
 | true =>
  simp only at e ⊢
  split at e
  case h_2=>cases e
  rename_i l hl
  simp only[h.cells hl];exact e
theorem WLe.lenM {w w':AW} (h:WLe w w') {x v:Value} (e:lenM w x=some v):lenM w' x=some v:=by
 unfold Sim.lenM at e ⊢
 split at e
 . exact e
 . rename_i r
   cases hb:w.blk r with
   | none=>simp[hb]at e
   | some x=>rw[hb]at e;simp only[h _ _ hb];exact e
 . cases e
theorem WLe.sliceV {w w':AW} (h:WLe w w') {z:Nat} {x v:Value} {lo hi:Option Value} (e:sliceV w z x lo hi=some v):sliceV w' z x lo hi=some v:=by
 unfold Sim.sliceV at e ⊢
 split at e
 case h_4=>cases e
 case h_3=>exact e
 case h_2=>exact e
 rename_i b o n k
 cases hb:w.blk b with
 | none =>
  rw[hb]at e
  exfalso
  revert e
  split
  . split <;> simp
  . simp
 | some x =>
  rw[hb]at e
  rw[h _ _ hb]
  exact e
theorem WLe.bytesV {w w':AW} (h:WLe w w') {x v:Value} (e:bytesV w x=some v):bytesV w' x=some v:=by
 unfold Sim.bytesV at e ⊢
 split at e
 . exact e
 . rename_i b o n c
   cases hb:aCells w b o n with
   | none=>rw[hb]at e;cases e
   | some vs=>rw[hb]at e;simp only[h.cells hb];exact e
 . cases e
theorem WLe.lookupV {w w':AW} (h:WLe w w') {kd:TypeDesc} {z x k v:Value} {ok:Bool} (e:lookupV w kd z x k ok=some v):lookupV w' kd z x k ok=some v:=by
 by_cases hm:∃ r,x=.map (some r)
 · obtain ⟨r,rfl⟩:=hm
   unfold Sim.lookupV at e ⊢
   cases hs:simpleKey kd with
   | false=>rw[hs]at e;cases e
   | true =>
    rw[hs]at e
    cases hb:w.blk r with
    | none=>simp only[hb]at e;cases e
    | some y=>simp only[hb]at e;simp only[h _ _ hb];exact e
 · unfold Sim.lookupV at e ⊢
   cases x with
   | map r=>cases r with
    | none=>exact e
    | some r=>exact absurd ⟨r,rfl⟩ hm
   | _=>exact e
theorem WLe.lookupA {w w':AW} (h:WLe w w') {p:Program} {kt:TypeId} {kd:TypeDesc} {z x k v:Value} {ok:Bool} (e:lookupA p w kt kd z x k ok=some v):lookupA p w' kt kd z x k ok=some v:=by
 by_cases hm:∃ r,x=.map (some r)
 · obtain ⟨r,rfl⟩:=hm
   unfold Sim.lookupA at e ⊢
   cases hs:aggKey kd && flat 6 k with
   | false=>rw[hs]at e;cases e
   | true =>
    rw[hs]at e
    cases hb:w.blk r with
    | none=>simp only[hb]at e;cases e
    | some y=>simp only[hb]at e;simp only[h _ _ hb];exact e
 · unfold Sim.lookupA at e ⊢
   cases x with
   | map r=>cases r with
    | none=>exact e
    | some r=>exact absurd ⟨r,rfl⟩ hm
   | _=>exact e
theorem WLe.fast {g:Prg} {t:Tmps} {w w':AW} (h:WLe w w') {o:Op} {v:Value} (e:fast g t w o=some v):fast g t w' o=some v:=by
 cases o <;> (try exact e)
 case makeFunc fn a b=>cases fn <;> exact e
 case load ty a =>
  simp only[Sim.fast]at e ⊢
  split at e
  case h_2=>cases e
  exact h.load e
 case call c =>
  obtain⟨callee,args,tys⟩:=c
  cases callee <;> (try exact e)
  rename_i b
  cases b <;> (try exact e)
  simp only[Sim.fast]at e ⊢
  split at e
  case h_2=>cases e
  split at e
  . exact e
  . exact h.lenM e
  . cases e
 case slice ty x lo hi mx =>
  cases mx with
  | some m=>exact e
  | none =>
   simp only[Sim.fast]at e ⊢
   split at e
   . split at e
     . exact h.sliceV e
     . cases e
   . split at e
     . exact e
     . cases e
   . cases e
 case lookup ty x k ok =>
  simp only[Sim.fast]at e ⊢
  split at e
  case h_2=>cases e
  split at e
  case h_2=>cases e
  split at e
  . exact h.lookupV e
  . exact h.lookupA e
 case convert src dst x =>
  simp only[Sim.fast]at e ⊢
  split at e
  . split at e
    . exact h.bytesV e
    . cases e
  . cases e
theorem flat_slice (w w':AW) (z:Nat) (x:Value) (lo hi:Option Value) (h:flat 6 x=true):sliceV w z x lo hi=sliceV w' z x lo hi:=by
 cases x <;> first|rfl|(simp[flat]at h)
theorem flat_lenM (w w':AW) (x:Value) (h:flat 6 x=true):lenM w x=lenM w' x:=by
 cases x <;> first|rfl|(simp[flat]at h)
theorem flat_fast {g:Prg} {t:Tmps} (w w':AW) {o:Op} (hk:flatKind o=true) (hf:flatOps t o.operands.toList=true):Sim.fast g t w o=Sim.fast g t w' o:=by
 have first:∀ x ∈ o.operands.toList,flat 6 (ev t x)=true:=by
  intro x hx
  generalize o.operands.toList=l at hf hx
  induction l with
  | nil=>cases hx
  | cons a l ih =>
   simp only[flatOps,Bool.and_eq_true]at hf
   rcases List.mem_cons.mp hx with q|q
   . subst q;exact hf.1
   . exact ih hf.2 q
 cases o <;> (try rfl) <;> (try (cases hk;done))
 case call c =>
  obtain⟨callee,args,tys⟩:=c
  cases callee <;> (try (cases hk;done))
  rename_i b
  cases b <;> (try rfl)
  simp only[Sim.fast]
  split
  · rename_i x ty hx hty
    have:flat 6 (ev t x)=true:=first x (by
     simp only[Op.operands,Call.operands]
     simp[hx])
    rw[flat_lenM w w' _ this]
  . rfl
 case slice ty x lo hi mx =>
  cases mx with
  | some m=>rfl
  | none =>
   have:flat 6 (ev t x)=true:=first x (by simp[Op.operands])
   simp only[Sim.fast,flat_slice w w' _ _ _ _ this]
 case convert src dst x =>
  have:flat 6 (ev t x)=true:=first x (by simp[Op.operands])
  have e:bytesV w (ev t x)=bytesV w' (ev t x):=by
   generalize ev t x=u at this
   cases u <;> first|rfl|(simp[flat]at this)
  simp only[Sim.fast,e]
theorem WLe.quiet {g:Prg} {t:Tmps} {w w':AW} (h:WLe w w') {o:Oper} {v:Value} (e:Sim.quiet g t w o=some v):Sim.quiet g t w' o=some v:=by
 unfold Sim.quiet at e ⊢
 cases hf:Sim.fast g t w o.op with
 | some u=>rw[hf]at e;rw[h.fast hf];exact e
 | none =>
  rw[hf]at e
  simp only at e
  split at e
  case h_2=>cases e
  rename_i hc
  simp only[Bool.and_eq_true]at hc
  rw[<- flat_fast w w' hc.1 hc.2,hf]
  simp only[hc.1,hc.2]
  exact e
def Fresh (w:AW):Prop:=(∀ b,w.next≤b->w.blk b=none)/\∀ r,w.next≤r->w.family r=[]
theorem Fresh.push {w:AW} (h:Fresh w) (k:Blk):Fresh (w.push k):=⟨fun b hb=>by
 rw[AW.next_push]at hb
 rw[AW.blk_push _ _ _ (Trie.in_ _) (Trie.in_ _),if_neg (by omega)]
 exact h.1 b (by omega),fun r hr=>by
 rw[AW.next_push]at hr
 rw[AW.family_push];exact h.2 r (by omega)⟩
theorem Fresh.le {w:AW} (h:Fresh w) (k:Blk):WLe w (w.push k):=fun b x hb=>by
 rw[AW.blk_push _ _ _ (Trie.in_ _) (Trie.in_ _),if_neg]
 . exact hb
 . intro e;rw[e,h.1 _ (Nat.le_refl _)]at hb;cases hb
section
variable (P:Program) (told:ToldF)
def StepT (draw tie:Bool) (o:Oper) (t:Tmps) (w:AW) (K:Tmps->AW->Prop):Prop :=
 match kind o.op with
 | .quiet=>∃ v,quiet (prg P) t w o=some v/\(draw=true->same 12 v v=true)/\K (putTmp t o.dst v) w
 | .makes=>∃ cells e f,makes (prg P) t o.op=some (cells,e,f)/\(draw=true->Fresh w)/\K (putTmp t o.dst (f w.next)) (w.push (.cells cells e w.next 0 0))
 | .effect=>EffT P told o t w fun t' w'=>(draw=true->tie=true->WLe w w')/\K t' w'
variable {P told}
theorem EffT.mono {o:Oper} {t:Tmps} {w:AW} {Q R:Tmps->AW->Prop} (h:EffT P told o t w Q) (k:∀ t' w',Q t' w'->R t' w'):EffT P told o t w R :=
 let ⟨N,t',w',a,b⟩:=h;⟨N,t',w',a,k _ _ b⟩
def Holds (g:Prg) (w:AW) (s:Seen):Prop:=quiet g s.t w s.o=some s.v/\same 12 s.v s.v=true
def SeenOk (g:Prg) (mask:Nat) (w:AW) (seen:List Seen):Prop:=∀ s ∈ seen,mask.testBit s.i=true \/ Holds g w s
theorem Holds.le {g:Prg} {w w':AW} {s:Seen} (h:Holds g w s) (k:WLe w w'):Holds g w' s:=⟨k.quiet h.1,h.2⟩
theorem SeenOk.le {g:Prg} {mask:Nat} {w w':AW} {seen:List Seen} (h:SeenOk g mask w seen) (k:WLe w w'):SeenOk g mask w' seen:=fun s hs=>(h s hs).imp id fun q=>q.le k
end
end Go.Sim

namespace Go.Sim
open Go Go.RowKit
inductive Tok {α:Type} (a:α):Type where
 | mk
def Then {α:Type} (o:Option α) (K:α->Prop) (_:Tok K):Prop:=∃ v,o=some v/\K v
section
variable (P:Program) (told:ToldF)
def EffR (o:Oper) (t:Tmps) (w:AW) (K:Tmps->AW->Prop):Prop :=
 match o.op with
 | .store ty a x=>Then ((prg P).ty ty) (fun i=>Then (storeV w i.agg i.size (ev t a) (ev t x)) (fun w'=>K (putTmp t o.dst undef) w') .mk) .mk
 | .call ⟨.builtin .append,args,tys⟩=>match args.toList,tys.toList with
  | [s,x],[sT,xT]=>Then (append (prg P) w sT xT (ev t s) (ev t x)) (fun r=>K (putTmp t o.dst r.1) r.2) .mk
  | _,_=>False
 | .makeSlice ty l c=>Then (makeSliceV (prg P) w ty (ev t l) (ev t c)) (fun r=>K (putTmp t o.dst r.1) r.2) .mk
 | .makeMap _ none=>K (putTmp t o.dst (.map (some w.next))) (w.push (.map #[] 0))
 | .mapUpdate ty m k x=>Then (updateV (prg P) w ty (ev t m) (ev t k) (ev t x)) (fun w'=>K (putTmp t o.dst undef) w') .mk
 | .insert ty m k x=>Then (updateV (prg P) w ty (ev t m) (ev t k) (ev t x)) (fun w'=>K (putTmp t o.dst undef) w') .mk
 | .call ⟨.value f,args,_⟩=>∃ fn first captured,ev t f=.func fn first captured/\CallT P told (.fn fn captured) (first++args.map (ev t)) w fun v w'=>K (putTmp t o.dst v) w'
 | .call ⟨.invoke r name,args,_⟩=>∃ f v,methodV (prg P) (ev t r) name=some (f,v)/\CallT P told (.fn (.func f) #[]) (#[v]++args.map (ev t)) w fun v w'=>K (putTmp t o.dst v) w'
 | _=>EffT P told o t w K
variable {P told}
theorem EffR.mono {o:Oper} {t:Tmps} {w:AW} {K L:Tmps->AW->Prop} (h:EffR P told o t w K) (k:∀ t w,K t w->L t w):EffR P told o t w L:=by
 unfold EffR at h ⊢
 split at h
 . obtain⟨i,hi,w',hw,q⟩:=h;exact⟨i,hi,w',hw,k _ _ q⟩
 . split at h
   . obtain⟨r,hr,q⟩:=h;exact⟨r,hr,k _ _ q⟩
   . exact h
 . obtain⟨r,hr,q⟩:=h;exact⟨r,hr,k _ _ q⟩
 . exact k _ _ h
 . obtain⟨r,hr,q⟩:=h;exact⟨r,hr,k _ _ q⟩
 . obtain⟨r,hr,q⟩:=h;exact⟨r,hr,k _ _ q⟩
 . obtain⟨fn,first,cap,he,q⟩:=h;exact⟨fn,first,cap,he,q.mono fun v w'=>k _ _⟩
 . obtain⟨f,u,he,q⟩:=h;exact⟨f,u,he,q.mono fun v w'=>k _ _⟩
 . exact EffT.mono h k
theorem StepT.mono {draw tie:Bool} {o:Oper} {t:Tmps} {w:AW} {K L:Tmps->AW->Prop} (h:StepT P told draw tie o t w K) (k:∀ t w,K t w->L t w):StepT P told draw tie o t w L:=by
 unfold StepT at h ⊢
 split at h
 . obtain⟨v,a,b,c⟩:=h;exact⟨v,a,b,k _ _ c⟩
 . obtain⟨c,e,f,a,b,d⟩:=h;exact⟨c,e,f,a,b,k _ _ d⟩
 . exact EffT.mono h fun t' w' q=>⟨q.1,k _ _ q.2⟩
end
section
variable (P:Program) (told:ToldF) (env:Env)
variable {P told env}
end
end Go.Sim

namespace Go.Sim
open Go Go.RowKit
variable {P:Program} {told:ToldF} {env:Env}
section
variable {draw tie:Bool} {d:Option Tmp} {ty0:TypeId} {pos:String} {af:Array Edge} {gd:Option (Nat × Bool)} {t:Tmps} {w:AW} {K:Tmps->AW->Prop}
end
end Go.Sim
