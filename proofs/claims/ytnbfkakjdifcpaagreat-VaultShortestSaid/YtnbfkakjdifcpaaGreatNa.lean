/- Open calls of the machine, part 1: what holds with enough fuel, rule by rule; the code of a function, stripped. -/
import Derived.Test.YtnbfkakjdifcpaaGreatMc
set_option linter.unusedVariables false
set_option linter.unusedSimpArgs false
namespace Go.Sim
open Go Go.RowKit
section
variable (P:Program) (told:ToldF)
def CallT (t:Target) (args:Array Value) (w:AW) (Q:Value->AW->Prop):Prop :=
 ∃ N v w',(∀ F n,N≤F->N≤n->acall (prg P) told F n t args w=.ret v w')/\Q v w'
def OpsT (ops:Array Oper) (l:List Oper) (t:Tmps) (w:AW) (Q:Tmps->AW->Prop):Prop :=
 ∃ N t' w',(∀ F n,N≤F->N≤n->aops (prg P) (acall (prg P) told F n) ops l t w=.ok t' w')/\Q t' w'
def RegT (ops:Array Oper) (draw:Bool) (t:Tmps) (w:AW) (Q:Tmps->AW->Prop):Prop :=
 ∃ N t' w',(∀ F n,N≤F->N≤n->aregion (prg P) (acall (prg P) told F n) ops draw t w=.ok t' w')/\Q t' w'
def EffT (o:Oper) (t:Tmps) (w:AW) (Q:Tmps->AW->Prop):Prop :=
 ∃ N t' w',(∀ F n,N≤F->N≤n->effect (prg P) (acall (prg P) told F n) o t w=.ok t' w')/\Q t' w'
def PhasesT (ops:Array Oper) (before:Array Nat) (l:List Phase) (mask:Nat) (t:Tmps) (seen:List Seen) (w:AW) (Q:Tmps->AW->Prop):Prop :=
 ∃ N t' w',(∀ F n,N≤F->N≤n->aphases (prg P) (acall (prg P) told F n) ops before l mask t seen w=.ok t' w')/\Q t' w'
def CodeT (env:Env) (c:Code) (t:Tmps) (ds:List DI) (w:AW) (Q:Ex->Tmps->List DI->AW->Prop):Prop :=
 ∃ N e t' ds' w',(∀ F n m,N≤F->N≤n->N≤m->acode (prg P) (acall (prg P) told F n) env m c t ds w=.go e t' ds' w')/\Q e t' ds' w'
variable {P told}
theorem CallT.mono {t:Target} {args:Array Value} {w:AW} {Q R:Value->AW->Prop} (h:CallT P told t args w Q) (k:∀ v w',Q v w'->R v w'):CallT P told t args w R :=
 let ⟨N,v,w',a,b⟩:=h;⟨N,v,w',a,k _ _ b⟩
theorem CodeT.mono {env:Env} {c:Code} {t:Tmps} {ds:List DI} {w:AW} {Q R:Ex->Tmps->List DI->AW->Prop} (h:CodeT P told env c t ds w Q) (k:∀ e t' ds' w',Q e t' ds' w'->R e t' ds' w'):CodeT P told env c t ds w R :=
 let ⟨N,e,t',ds',w',a,b⟩:=h;⟨N,e,t',ds',w',a,k _ _ _ _ b⟩
theorem codeT_skip {env:Env} {t:Tmps} {ds:List DI} {w:AW} {Q:Ex->Tmps->List DI->AW->Prop} (h:Q .normal t ds w):CodeT P told env .skip t ds w Q :=
 ⟨1,_,_,_,_,fun F n m _ _ hm=>by obtain⟨m,rfl⟩:∃ k,m=k+1:=⟨m - 1,by omega⟩;rfl,h⟩
theorem codeT_label {env:Env} {l:Nat} {t:Tmps} {ds:List DI} {w:AW} {Q:Ex->Tmps->List DI->AW->Prop} (h:Q .normal t ds w):CodeT P told env (.label l) t ds w Q :=
 ⟨1,_,_,_,_,fun F n m _ _ hm=>by obtain⟨m,rfl⟩:∃ k,m=k+1:=⟨m - 1,by omega⟩;rfl,h⟩
theorem codeT_exit {env:Env} {id:Nat} {t:Tmps} {ds:List DI} {w:AW} {Q:Ex->Tmps->List DI->AW->Prop} (h:Q (.exit id) t ds w):CodeT P told env (.exit id) t ds w Q :=
 ⟨1,_,_,_,_,fun F n m _ _ hm=>by obtain⟨m,rfl⟩:∃ k,m=k+1:=⟨m - 1,by omega⟩;rfl,h⟩
theorem codeT_ret {env:Env} {t:Tmps} {ds:List DI} {w:AW} {Q:Ex->Tmps->List DI->AW->Prop} (h:Q .ret t ds w):CodeT P told env .ret t ds w Q :=
 ⟨1,_,_,_,_,fun F n m _ _ hm=>by obtain⟨m,rfl⟩:∃ k,m=k+1:=⟨m - 1,by omega⟩;rfl,h⟩
theorem codeT_scope {env:Env} {b:Code} {t:Tmps} {ds:List DI} {w:AW} {Q:Ex->Tmps->List DI->AW->Prop} (h:CodeT P told env b t ds w Q):CodeT P told env (.scope b) t ds w Q:=by
 obtain⟨N,e,t',ds',w',a,b⟩:=h
 exact⟨N+1,e,t',ds',w',fun F n m hF hn hm=>by obtain⟨m,rfl⟩:∃ k,m=k+1:=⟨m - 1,by omega⟩;exact a F n m (by omega) (by omega) (by omega),b⟩
theorem codeT_region {env:Env} {id:Nat} {ops:Array Oper} {draw:Bool} {t:Tmps} {ds:List DI} {w:AW} {Q:Ex->Tmps->List DI->AW->Prop}
    (hdf:hasDefer ops.toList=false) (h:RegT P told ops draw t w fun t' w'=>Q .normal t' ds w'):CodeT P told env (.region id ops draw) t ds w Q:=by
 obtain⟨N,t',w',a,b⟩:=h
 exact ⟨N+1,_,_,_,_,fun F n m hF hn hm=>by
  obtain⟨m,rfl⟩:∃ k,m=k+1:=⟨m - 1,by omega⟩
  simp only[acode,hdf,a F n (by omega) (by omega)],b⟩
theorem codeT_seq {env:Env} {a b:Code} {t:Tmps} {ds:List DI} {w:AW} {Q:Ex->Tmps->List DI->AW->Prop}
    (h:CodeT P told env a t ds w fun e t' ds' w'=>match e with|.normal=>CodeT P told env b t' ds' w' Q|e=>Q e t' ds' w'):CodeT P told env (.seq a b) t ds w Q:=by
 obtain⟨N,e,t',ds',w',h1,h2⟩:=h
 cases e with
 | normal =>
  obtain⟨N2,e2,t2,ds2,w2,k1,k2⟩:=h2
  exact ⟨N+N2+1,_,_,_,_,fun F n m hF hn hm=>by
   obtain⟨m,rfl⟩:∃ k,m=k+1:=⟨m - 1,by omega⟩
   simp only[acode,h1 F n m (by omega) (by omega) (by omega),k1 F n m (by omega) (by omega) (by omega)],k2⟩
 | exit id =>
  exact ⟨N+1,_,_,_,_,fun F n m hF hn hm=>by
   obtain⟨m,rfl⟩:∃ k,m=k+1:=⟨m - 1,by omega⟩
   simp only[acode,h1 F n m (by omega) (by omega) (by omega)],h2⟩
 | ret =>
  exact ⟨N+1,_,_,_,_,fun F n m hF hn hm=>by
   obtain⟨m,rfl⟩:∃ k,m=k+1:=⟨m - 1,by omega⟩
   simp only[acode,h1 F n m (by omega) (by omega) (by omega)],h2⟩
 | pan v =>
  exact ⟨N+1,_,_,_,_,fun F n m hF hn hm=>by
   obtain⟨m,rfl⟩:∃ k,m=k+1:=⟨m - 1,by omega⟩
   simp only[acode,h1 F n m (by omega) (by omega) (by omega)],h2⟩
theorem codeT_cond {env:Env} {c:Operand} {a b:Code} {t:Tmps} {ds:List DI} {w:AW} {Q:Ex->Tmps->List DI->AW->Prop} {x:Bool} (hc:ev t c=.bool x)
    (h:CodeT P told env (match x with|true=>a|false=>b) t ds w Q):CodeT P told env (.cond c a b) t ds w Q:=by
 obtain⟨N,e,t',ds',w',h1,h2⟩:=h
 exact ⟨N+1,_,_,_,_,fun F n m hF hn hm=>by
  obtain⟨m,rfl⟩:∃ k,m=k+1:=⟨m - 1,by omega⟩
  have:=h1 F n m (by omega) (by omega) (by omega)
  cases x <;> simpa only[acode,hc] using this,h2⟩
theorem codeT_block {env:Env} {id:Nat} {b:Code} {t:Tmps} {ds:List DI} {w:AW} {Q:Ex->Tmps->List DI->AW->Prop}
    (h:CodeT P told env b t ds w fun e t' ds' w'=>match e with|.exit i=>(match Nat.beq i id with|true=>Q .normal t' ds' w'|false=>Q (.exit i) t' ds' w')|e=>Q e t' ds' w'):CodeT P told env (.block id b) t ds w Q:=by
 obtain⟨N,e,t',ds',w',h1,h2⟩:=h
 cases e with
 | exit i =>
  cases hb:Nat.beq i id with
  | true =>
   simp only[hb]at h2
   exact ⟨N+1,_,_,_,_,fun F n m hF hn hm=>by
    obtain⟨m,rfl⟩:∃ k,m=k+1:=⟨m - 1,by omega⟩
    simp only[acode,h1 F n m (by omega) (by omega) (by omega),hb],h2⟩
  | false =>
   simp only[hb]at h2
   exact ⟨N+1,_,_,_,_,fun F n m hF hn hm=>by
    obtain⟨m,rfl⟩:∃ k,m=k+1:=⟨m - 1,by omega⟩
    simp only[acode,h1 F n m (by omega) (by omega) (by omega),hb],h2⟩
 | normal =>
  exact ⟨N+1,_,_,_,_,fun F n m hF hn hm=>by
   obtain⟨m,rfl⟩:∃ k,m=k+1:=⟨m - 1,by omega⟩
   simp only[acode,h1 F n m (by omega) (by omega) (by omega)],h2⟩
 | ret =>
  exact ⟨N+1,_,_,_,_,fun F n m hF hn hm=>by
   obtain⟨m,rfl⟩:∃ k,m=k+1:=⟨m - 1,by omega⟩
   simp only[acode,h1 F n m (by omega) (by omega) (by omega)],h2⟩
 | pan v =>
  exact ⟨N+1,_,_,_,_,fun F n m hF hn hm=>by
   obtain⟨m,rfl⟩:∃ k,m=k+1:=⟨m - 1,by omega⟩
   simp only[acode,h1 F n m (by omega) (by omega) (by omega)],h2⟩
theorem codeT_loop {env:Env} {b:Code} {Q:Ex->Tmps->List DI->AW->Prop} (I:Nat->Tmps->List DI->AW->Prop)
    (step:∀ k t ds w,I k t ds w->CodeT P told env b t ds w fun e t' ds' w'=>match e with|.normal=>∃ j,j < k/\I j t' ds' w'|e=>Q e t' ds' w') :
    ∀ k t ds w,I k t ds w->CodeT P told env (.loop b) t ds w Q:=by
 intro k
 induction k using Nat.strongRecOn with
 | ind k ih =>
  intro t ds w hI
  obtain⟨N,e,t',ds',w',h1,h2⟩:=step k t ds w hI
  cases e with
  | normal =>
   obtain⟨j,hj,hI'⟩:=h2
   obtain⟨N2,e2,t2,ds2,w2,k1,k2⟩:=ih j hj t' ds' w' hI'
   exact ⟨N+N2+1,_,_,_,_,fun F n m hF hn hm=>by
    obtain⟨m,rfl⟩:∃ k,m=k+1:=⟨m - 1,by omega⟩
    simp only[acode,h1 F n m (by omega) (by omega) (by omega),k1 F n m (by omega) (by omega) (by omega)],k2⟩
  | exit id =>
   exact ⟨N+1,_,_,_,_,fun F n m hF hn hm=>by
    obtain⟨m,rfl⟩:∃ k,m=k+1:=⟨m - 1,by omega⟩
    simp only[acode,h1 F n m (by omega) (by omega) (by omega)],h2⟩
  | ret =>
   exact ⟨N+1,_,_,_,_,fun F n m hF hn hm=>by
    obtain⟨m,rfl⟩:∃ k,m=k+1:=⟨m - 1,by omega⟩
    simp only[acode,h1 F n m (by omega) (by omega) (by omega)],h2⟩
  | pan v =>
   exact ⟨N+1,_,_,_,_,fun F n m hF hn hm=>by
    obtain⟨m,rfl⟩:∃ k,m=k+1:=⟨m - 1,by omega⟩
    simp only[acode,h1 F n m (by omega) (by omega) (by omega)],h2⟩
theorem opsT_nil {ops:Array Oper} {t:Tmps} {w:AW} {Q:Tmps->AW->Prop} (h:Q t w):OpsT P told ops [] t w Q:=⟨0,_,_,fun _ _ _ _=>rfl,h⟩
theorem opsT_quiet {ops:Array Oper} {o:Oper} {l:List Oper} {t:Tmps} {w:AW} {Q:Tmps->AW->Prop} {v:Value} (hw:wantedA ops o t=true) (hk:kind o.op=.quiet) (hv:quiet (prg P) t w o=some v)
    (h:OpsT P told ops l (putTmp t o.dst v) w Q):OpsT P told ops (o :: l) t w Q:=by
 obtain⟨N,t',w',a,b⟩:=h
 exact⟨N,_,_,fun F n hF hn=>by simp only[aops,hw,aop,hk,hv];exact a F n hF hn,b⟩
theorem opsT_skip {ops:Array Oper} {o:Oper} {l:List Oper} {t:Tmps} {w:AW} {Q:Tmps->AW->Prop} (hw:wantedA ops o t=false)
    (h:OpsT P told ops l (putTmp t o.dst undef) w Q):OpsT P told ops (o :: l) t w Q:=by
 obtain⟨N,t',w',a,b⟩:=h
 exact⟨N,_,_,fun F n hF hn=>by simp only[aops,hw];exact a F n hF hn,b⟩
theorem opsT_makes {ops:Array Oper} {o:Oper} {l:List Oper} {t:Tmps} {w:AW} {Q:Tmps->AW->Prop} {cells:List Value} {e:TypeId} {f:Nat->Value} (hw:wantedA ops o t=true) (hk:kind o.op=.makes)
    (hm:makes (prg P) t o.op=some (cells,e,f)) (h:OpsT P told ops l (putTmp t o.dst (f w.next)) (w.push (.cells cells e w.next 0 0)) Q):OpsT P told ops (o :: l) t w Q:=by
 obtain⟨N,t',w',a,b⟩:=h
 have hfull:w.full=false:=rfl
 exact⟨N,_,_,fun F n hF hn=>by simp only[aops,hw,aop,hk,hfull,hm];exact a F n hF hn,b⟩
theorem opsT_effect {ops:Array Oper} {o:Oper} {l:List Oper} {t:Tmps} {w:AW} {Q:Tmps->AW->Prop} (hw:wantedA ops o t=true) (hk:kind o.op=.effect)
    (h:EffT P told o t w fun t' w'=>OpsT P told ops l t' w' Q):OpsT P told ops (o :: l) t w Q:=by
 obtain⟨N,t',w',a,N2,t2,w2,b,c⟩:=h
 exact⟨N+N2,_,_,fun F n hF hn=>by simp only[aops,hw,aop,hk,a F n (by omega) (by omega)];exact b F n (by omega) (by omega),c⟩
theorem effT_still {o:Oper} {t t':Tmps} {w w':AW} {Q:Tmps->AW->Prop} (h:∀ call,effect (prg P) call o t w=.ok t' w') (q:Q t' w'):EffT P told o t w Q:=⟨0,_,_,fun _ _ _ _=>h _,q⟩
theorem effT_call {o:Oper} {f:Operand} {args:Array Operand} {tys:Array TypeId} {t:Tmps} {w:AW} {Q:Tmps->AW->Prop} (ho:o.op=.call ⟨.value f,args,tys⟩) {fn:Fn} {first captured:Array Value} (hf:ev t f=.func fn first captured)
    (h:CallT P told (.fn fn captured) (first++args.map (ev t)) w fun v w'=>Q (putTmp t o.dst v) w'):EffT P told o t w Q:=by
 obtain⟨N,v,w',a,b⟩:=h
 exact⟨N,_,_,fun F n hF hn=>by simp only[effect,ho,hf,a F n hF hn,came],b⟩
theorem effT_invoke {o:Oper} {r:Operand} {name:String} {args:Array Operand} {tys:Array TypeId} {t:Tmps} {w:AW} {Q:Tmps->AW->Prop} (ho:o.op=.call ⟨.invoke r name,args,tys⟩) {f:FuncId} {u:Value} (hf:methodV (prg P) (ev t r) name=some (f,u))
    (h:CallT P told (.fn (.func f) #[]) (#[u]++args.map (ev t)) w fun v w'=>Q (putTmp t o.dst v) w'):EffT P told o t w Q:=by
 obtain⟨N,v,w',a,b⟩:=h
 exact⟨N,_,_,fun F n hF hn=>by simp only[effect,ho,hf,a F n hF hn,came],b⟩
theorem callT_told {f:FuncId} {captured args:Array Value} {w w':AW} {v:Value} {Q:Value->AW->Prop} (h:told f (args++captured) w=some (v,w')) (q:Q v w'):CallT P told (.fn (.func f) captured) args w Q :=
 ⟨1,v,w',fun F n _ hn=>by obtain⟨n,rfl⟩:∃ k,n=k+1:=⟨n - 1,by omega⟩;simp only[acall,h],q⟩
theorem fn_eq {f:FuncId} {fn:Func} (h:P.funcs[f]? = some fn) (hf:Nat.blt f 16777215=true):(prg P).fn f=some fn:=by
 simp only[Prg.fn,hf,prg]
 rw[Trie.fillFrom_get _ _ _ _ (Trie.in_ _) (Trie.in_ _)]
 obtain⟨hlt,rfl⟩:=Array.getElem?_eq_some_iff.mp h
 rw[if_pos (by simp;exact hlt)]
 simp[hlt]
def Left (rs:List ResultVar) (e:Ex) (t:Tmps) (ds:List DI) (w:AW) (Q:Value->AW->Prop):Prop :=
 (∀ id,e ≠ .exit id)/\(∀ v,e ≠ .pan v)/\∃ w1 vs,(∀ run,adefers run none ds w=some (none,w1))/\aresults (prg P) true t w1 rs=some vs/\Q (tupled vs) w1
theorem callT_enter {f:FuncId} {captured args:Array Value} {w:AW} {Q:Value->AW->Prop} {fn:Func} {c:Code} (htold:told f (args++captured) w=none) (hf:P.funcs[f]? = some fn) (hlt:Nat.blt f 16777215=true) (hc:fn.body=some c)
    (hn:Nat.ble (args++captured).size fn.ntmps=true)
    (h:CodeT P told { fn:=f,round:=none } c (fillFrom 0 (args++captured).toList .leaf) [] w fun e t ds w'=>Left (P:=P) fn.results.toList e t ds w' Q):CallT P told (.fn (.func f) captured) args w Q:=by
 obtain⟨N,e,t,ds,w',a,hne,hnp,w1,vs,h1,h2,h3⟩:=h
 refine⟨N+1,tupled vs,w1,fun F n hF hnn=>?_,h3⟩
 obtain⟨n,rfl⟩:∃ k,n=k+1:=⟨n - 1,by omega⟩
 simp only[acall,htold,aenter,fn_eq hf hlt,hc,hn,a F n F (by omega) (by omega) (by omega)]
 cases e with
 | exit id=>exact absurd rfl (hne id)
 | pan v=>exact absurd rfl (hnp v)
 | normal=>simp only[left,aleave,exPan,isNone,h1,h2]
 | ret=>simp only[left,aleave,exPan,isNone,h1,h2]
end
end Go.Sim

namespace Go.Sim
open Go Go.RowKit
def WLe (w w':AW):Prop:=∀ b x,w.blk b=some x->w'.blk b=some x
theorem WLe.refl (w:AW):WLe w w:=fun _ _ h=>h
theorem WLe.trans {a b c:AW} (h:WLe a b) (k:WLe b c):WLe a c:=fun i x e=>k i x (h i x e)
theorem WLe.cell {w w':AW} (h:WLe w w') {a:Addr} {v:Value} (hv:w.cell? a=some v):w'.cell? a=some v:=by
 unfold AW.cell? at hv ⊢
 split at hv
 . rename_i b o
   cases hb:w.blk b with
   | none=>simp[hb]at hv
   | some x=>rw[h b x hb];rw[hb]at hv;exact hv
 . cases hv
theorem WLe.cells {w w':AW} (h:WLe w w'):∀ {n b o:Nat} {l:List Value},aCells w b o n=some l->aCells w' b o n=some l
 | 0,_,_,_,e=>e
 | n+1,b,o,l,e=>by
  simp only[aCells]at e ⊢
  split at e
  case h_2=>cases e
  rename_i v hv
  rw[h.cell hv]
  split at e
  case h_2=>cases e
  rename_i l' hl
  simp only[h.cells hl]
  exact e
theorem WLe.load {w w':AW} (h:WLe w w') {agg:Bool} {n:Nat} {a v:Value} (e:loadV w agg n a=some v):loadV w' agg n a=some v:=by
 unfold loadV at e ⊢
 split at e
 case h_2=>cases e
 cases agg with
 | false=>exact h.cell e
 | true =>
  simp only at e ⊢
  split at e
  case h_2=>cases e
  rename_i l hl
  simp only[h.cells hl];exact e
theorem WLe.lenM {w w':AW} (h:WLe w w') {x v:Value} (e:lenM w x=some v):lenM w' x=some v:=by
 unfold Sim.lenM at e ⊢
 split at e
 . exact e
 . rename_i r
   cases hb:w.blk r with
   | none=>simp[hb]at e
   | some x=>rw[hb]at e;simp only[h _ _ hb];exact e
 . cases e
theorem WLe.sliceV {w w':AW} (h:WLe w w') {z:Nat} {x v:Value} {lo hi:Option Value} (e:sliceV w z x lo hi=some v):sliceV w' z x lo hi=some v:=by
 unfold Sim.sliceV at e ⊢
 split at e
 case h_4=>cases e
 case h_3=>exact e
 case h_2=>exact e
 rename_i b o n k
 cases hb:w.blk b with
 | none =>
  rw[hb]at e
  exfalso
  revert e
  split
  . split <;> simp
  . simp
 | some x =>
  rw[hb]at e
  rw[h _ _ hb]
  exact e
theorem WLe.bytesV {w w':AW} (h:WLe w w') {x v:Value} (e:bytesV w x=some v):bytesV w' x=some v:=by
 unfold Sim.bytesV at e ⊢
 split at e
 . exact e
 . rename_i b o n c
   cases hb:aCells w b o n with
   | none=>rw[hb]at e;cases e
   | some vs=>rw[hb]at e;simp only[h.cells hb];exact e
 . cases e
theorem WLe.lookupV {w w':AW} (h:WLe w w') {kd:TypeDesc} {z x k v:Value} {ok:Bool} (e:lookupV w kd z x k ok=some v):lookupV w' kd z x k ok=some v:=by
 by_cases hm:∃ r,x=.map (some r)
 · obtain ⟨r,rfl⟩:=hm
   unfold Sim.lookupV at e ⊢
   cases hs:simpleKey kd with
   | false=>rw[hs]at e;cases e
   | true =>
    rw[hs]at e
    cases hb:w.blk r with
    | none=>simp only[hb]at e;cases e
    | some y=>simp only[hb]at e;simp only[h _ _ hb];exact e
 · unfold Sim.lookupV at e ⊢
   cases x with
   | map r=>cases r with
    | none=>exact e
    | some r=>exact absurd ⟨r,rfl⟩ hm
   | _=>exact e
theorem WLe.lookupA {w w':AW} (h:WLe w w') {p:Program} {kt:TypeId} {kd:TypeDesc} {z x k v:Value} {ok:Bool} (e:lookupA p w kt kd z x k ok=some v):lookupA p w' kt kd z x k ok=some v:=by
 by_cases hm:∃ r,x=.map (some r)
 · obtain ⟨r,rfl⟩:=hm
   unfold Sim.lookupA at e ⊢
   cases hs:aggKey kd && flat 6 k with
   | false=>rw[hs]at e;cases e
   | true =>
    rw[hs]at e
    cases hb:w.blk r with
    | none=>simp only[hb]at e;cases e
    | some y=>simp only[hb]at e;simp only[h _ _ hb];exact e
 · unfold Sim.lookupA at e ⊢
   cases x with
   | map r=>cases r with
    | none=>exact e
    | some r=>exact absurd ⟨r,rfl⟩ hm
   | _=>exact e
theorem WLe.fast {g:Prg} {t:Tmps} {w w':AW} (h:WLe w w') {o:Op} {v:Value} (e:fast g t w o=some v):fast g t w' o=some v:=by
 cases o <;> (try exact e)
 case makeFunc fn a b=>cases fn <;> exact e
 case load ty a =>
  simp only[Sim.fast]at e ⊢
  split at e
  case h_2=>cases e
  exact h.load e
 case call c =>
  obtain⟨callee,args,tys⟩:=c
  cases callee <;> (try exact e)
  rename_i b
  cases b <;> (try exact e)
  simp only[Sim.fast]at e ⊢
  split at e
  case h_2=>cases e
  split at e
  . exact e
  . exact h.lenM e
  . cases e
 case slice ty x lo hi mx =>
  cases mx with
  | some m=>exact e
  | none =>
   simp only[Sim.fast]at e ⊢
   split at e
   . split at e
     . exact h.sliceV e
     . cases e
   . split at e
     . exact e
     . cases e
   . cases e
 case lookup ty x k ok =>
  simp only[Sim.fast]at e ⊢
  split at e
  case h_2=>cases e
  split at e
  case h_2=>cases e
  split at e
  . exact h.lookupV e
  . exact h.lookupA e
 case convert src dst x =>
  simp only[Sim.fast]at e ⊢
  split at e
  . split at e
    . exact h.bytesV e
    . cases e
  . cases e
theorem flat_slice (w w':AW) (z:Nat) (x:Value) (lo hi:Option Value) (h:flat 6 x=true):sliceV w z x lo hi=sliceV w' z x lo hi:=by
 cases x <;> first|rfl|(simp[flat]at h)
theorem flat_lenM (w w':AW) (x:Value) (h:flat 6 x=true):lenM w x=lenM w' x:=by
 cases x <;> first|rfl|(simp[flat]at h)
theorem flat_fast {g:Prg} {t:Tmps} (w w':AW) {o:Op} (hk:flatKind o=true) (hf:flatOps t o.operands.toList=true):Sim.fast g t w o=Sim.fast g t w' o:=by
 have first:∀ x ∈ o.operands.toList,flat 6 (ev t x)=true:=by
  intro x hx
  generalize o.operands.toList=l at hf hx
  induction l with
  | nil=>cases hx
  | cons a l ih =>
   simp only[flatOps,Bool.and_eq_true]at hf
   rcases List.mem_cons.mp hx with q|q
   . subst q;exact hf.1
   . exact ih hf.2 q
 cases o <;> (try rfl) <;> (try (cases hk;done))
 case call c =>
  obtain⟨callee,args,tys⟩:=c
  cases callee <;> (try (cases hk;done))
  rename_i b
  cases b <;> (try rfl)
  simp only[Sim.fast]
  split
  · rename_i x ty hx hty
    have:flat 6 (ev t x)=true:=first x (by
     simp only[Op.operands,Call.operands]
     simp[hx])
    rw[flat_lenM w w' _ this]
  . rfl
 case slice ty x lo hi mx =>
  cases mx with
  | some m=>rfl
  | none =>
   have:flat 6 (ev t x)=true:=first x (by simp[Op.operands])
   simp only[Sim.fast,flat_slice w w' _ _ _ _ this]
 case convert src dst x =>
  have:flat 6 (ev t x)=true:=first x (by simp[Op.operands])
  have e:bytesV w (ev t x)=bytesV w' (ev t x):=by
   generalize ev t x=u at this
   cases u <;> first|rfl|(simp[flat]at this)
  simp only[Sim.fast,e]
theorem WLe.quiet {g:Prg} {t:Tmps} {w w':AW} (h:WLe w w') {o:Oper} {v:Value} (e:Sim.quiet g t w o=some v):Sim.quiet g t w' o=some v:=by
 unfold Sim.quiet at e ⊢
 cases hf:Sim.fast g t w o.op with
 | some u=>rw[hf]at e;rw[h.fast hf];exact e
 | none =>
  rw[hf]at e
  simp only at e
  split at e
  case h_2=>cases e
  rename_i hc
  simp only[Bool.and_eq_true]at hc
  rw[<- flat_fast w w' hc.1 hc.2,hf]
  simp only[hc.1,hc.2]
  exact e
def Fresh (w:AW):Prop:=(∀ b,w.next≤b->w.blk b=none)/\∀ r,w.next≤r->w.family r=[]
theorem Fresh.push {w:AW} (h:Fresh w) (k:Blk):Fresh (w.push k):=⟨fun b hb=>by
 rw[AW.next_push]at hb
 rw[AW.blk_push _ _ _ (Trie.in_ _) (Trie.in_ _),if_neg (by omega)]
 exact h.1 b (by omega),fun r hr=>by
 rw[AW.next_push]at hr
 rw[AW.family_push];exact h.2 r (by omega)⟩
theorem Fresh.le {w:AW} (h:Fresh w) (k:Blk):WLe w (w.push k):=fun b x hb=>by
 rw[AW.blk_push _ _ _ (Trie.in_ _) (Trie.in_ _),if_neg]
 . exact hb
 . intro e;rw[e,h.1 _ (Nat.le_refl _)]at hb;cases hb
structure SOp where
 o:Oper
 g:Option (Option Tmp × Bool)
 tie:Bool
def bare (o:Oper):Oper:={ o with pos := "",after:=#[],guard:=none }
def guardOf (ops:Array Oper) (o:Oper):Option (Option Tmp × Bool) :=
 match o.guard with
 | none=>none
 | some (j,want)=>some ((ops[j]?).bind (·.dst),want)
def wantedS (g:Option (Option Tmp × Bool)) (t:Tmps):Bool :=
 match g with
 | none=>true
 | some (d,want) =>
  match (match d with
   | some d=>match t.get d with
    | some (.bool b)=>some b
    | _=>none
   | none=>none:Option Bool),want with
  | some true,true=>true
  | some false,false=>true
  | _,_=>false
theorem wantedS_eq (ops:Array Oper) (o:Oper) (t:Tmps):wantedS (guardOf ops o) t=wantedA ops o t:=by
 unfold wantedS guardOf wantedA
 cases o.guard with
 | none=>rfl
 | some p=>obtain⟨j,want⟩:=p;rfl
section
variable (P:Program) (told:ToldF)
def StepT (draw tie:Bool) (o:Oper) (t:Tmps) (w:AW) (K:Tmps->AW->Prop):Prop :=
 match kind o.op with
 | .quiet=>∃ v,quiet (prg P) t w o=some v/\(draw=true->same 12 v v=true)/\K (putTmp t o.dst v) w
 | .makes=>∃ cells e f,makes (prg P) t o.op=some (cells,e,f)/\(draw=true->Fresh w)/\K (putTmp t o.dst (f w.next)) (w.push (.cells cells e w.next 0 0))
 | .effect=>EffT P told o t w fun t' w'=>(draw=true->tie=true->WLe w w')/\K t' w'
def SeqT (draw:Bool):List SOp->Tmps->AW->(Tmps->AW->Prop)->Prop
 | [],t,w,Q=>Q t w
 | s :: l,t,w,Q=>match wantedS s.g t with
  | true=>StepT P told draw s.tie s.o t w fun t w=>SeqT draw l t w Q
  | false=>SeqT draw l (putTmp t s.o.dst undef) w Q
variable {P told}
theorem EffT.mono {o:Oper} {t:Tmps} {w:AW} {Q R:Tmps->AW->Prop} (h:EffT P told o t w Q) (k:∀ t' w',Q t' w'->R t' w'):EffT P told o t w R :=
 let ⟨N,t',w',a,b⟩:=h;⟨N,t',w',a,k _ _ b⟩
theorem seqT_ops (ops:Array Oper):∀ (l:List Oper) {t:Tmps} {w:AW} {Q:Tmps->AW->Prop},SeqT P told false (l.map fun o=>⟨bare o,guardOf ops o,false⟩) t w Q->OpsT P told ops l t w Q
 | [],t,w,Q,h=>opsT_nil h
 | o :: l,t,w,Q,h=>by
  simp only[List.map_cons,SeqT,wantedS_eq]at h
  cases hw:wantedA ops o t with
  | false =>
   rw[hw]at h
   exact opsT_skip hw (seqT_ops ops l h)
  | true =>
   rw[hw]at h
   simp only[StepT]at h
   have hk:kind (bare o).op=kind o.op:=rfl
   rw[hk]at h
   cases hkk:kind o.op with
   | quiet =>
    rw[hkk]at h
    obtain⟨v,h1,_,h2⟩:=h
    exact opsT_quiet hw hkk h1 (seqT_ops ops l h2)
   | makes =>
    rw[hkk]at h
    obtain⟨c,e,f,h1,_,h2⟩:=h
    exact opsT_makes hw hkk h1 (seqT_ops ops l h2)
   | effect =>
    rw[hkk]at h
    refine opsT_effect hw hkk ?_
    have h':EffT P told o t w fun t' w'=>(false=true->false=true->WLe w w')/\SeqT P told false (l.map fun o=>⟨bare o,guardOf ops o,false⟩) t' w' Q:=h
    exact h'.mono fun t' w' q=>seqT_ops ops l q.2
theorem seqT_region {ops:Array Oper} {t:Tmps} {w:AW} {Q:Tmps->AW->Prop} (h:SeqT P told false (ops.toList.map fun o=>⟨bare o,guardOf ops o,false⟩) t w Q):RegT P told ops false t w Q:=seqT_ops ops _ h
def sQuiets (ops:Array Oper):List Nat->Option (List SOp)
 | []=>some []
 | i :: l=>match ops[i]?,sQuiets ops l with
  | some o,some r=>match kind o.op with
   | .effect=>none
   | _=>some (⟨bare o,guardOf ops o,true⟩ :: r)
  | _,_=>none
def sPhases (ops:Array Oper) (before:Array Nat):List Phase->Nat->List Nat->Option (List SOp)
 | [],_,_=>some []
 | ph :: l, mask,seen =>
  match sQuiets ops ph.quiets with
  | none=>none
  | some qs =>
   match ph.effect with
   | none=>match sPhases ops before l mask (seen++ph.quiets) with
    | some r=>some (qs++r)
    | none=>none
   | some i =>
    match ops[i]? with
    | none=>none
    | some o =>
     match ((seen++ph.quiets).all fun j=>(before.getD i 0).testBit j || !mask.testBit j) && isEffect o with
     | false=>none
     | true=>match sPhases ops before l (before.getD i 0) (seen++ph.quiets) with
      | some r=>some (qs++⟨bare o,guardOf ops o,(seen++ph.quiets).any fun j=>!(before.getD i 0).testBit j⟩ :: r)
      | none=>none
def Holds (g:Prg) (w:AW) (s:Seen):Prop:=quiet g s.t w s.o=some s.v/\same 12 s.v s.v=true
def SeenOk (g:Prg) (mask:Nat) (w:AW) (seen:List Seen):Prop:=∀ s ∈ seen,mask.testBit s.i=true \/ Holds g w s
theorem looks_of {g:Prg} {mask:Nat} {w:AW}:∀ {seen:List Seen},SeenOk g mask w seen->looksAgain g mask w seen=true
 | [],_=>rfl
 | ⟨i, o,t,v⟩ :: l,h=>by
  have hl:looksAgain g mask w l=true:=looks_of fun s hs=>h s (List.mem_cons_of_mem _ hs)
  unfold looksAgain
  cases hm:mask.testBit i with
  | true=>exact hl
  | false =>
   rcases h ⟨i,o,t,v⟩ List.mem_cons_self with q|⟨q1,q2⟩
   . rw[hm]at q;cases q
   . simp only at q1 q2
     simp only[q1,q2]
     exact hl
theorem Holds.le {g:Prg} {w w':AW} {s:Seen} (h:Holds g w s) (k:WLe w w'):Holds g w' s:=⟨k.quiet h.1,h.2⟩
theorem SeenOk.le {g:Prg} {mask:Nat} {w w':AW} {seen:List Seen} (h:SeenOk g mask w seen) (k:WLe w w'):SeenOk g mask w' seen:=fun s hs=>(h s hs).imp id fun q=>q.le k
theorem quiets_ok (ops:Array Oper) (mask:Nat):∀ (is:List Nat) {qs rest:List SOp} {t:Tmps} {w:AW} {seen:List Seen} {Q:Tmps->AW->Prop},sQuiets ops is=some qs->SeenOk (prg P) mask w seen ->
    SeqT P told true (qs++rest) t w Q ->
    ∃ t' seen' w',aquiets (prg P) ops is t seen w=.ok t' seen' w'/\SeenOk (prg P) mask w' seen'/\WLe w w'/\(∀ s ∈ seen',s ∈ seen \/ s.i ∈ is)/\SeqT P told true rest t' w' Q/\(∀ s ∈ seen,s ∈ seen')
 | [],qs,rest,t,w,seen,Q,hq,hs,h=>by
  simp only[sQuiets,Option.some.injEq]at hq
  subst hq
  exact⟨t,seen,w,rfl,hs,.refl _,fun s h=>.inl h,h,fun _ h=>h⟩
 | i :: l,qs,rest,t,w,seen,Q,hq,hs,h=>by
  simp only[sQuiets]at hq
  split at hq
  case h_2=>cases hq
  rename_i o r ho hr
  have hq':kind o.op ≠ .effect/\qs=⟨bare o,guardOf ops o,true⟩ :: r:=by
   revert hq
   split
   . intro e;cases e
   . rename_i hne
     intro e;injection e with e;exact⟨fun q=>hne q,e.symm⟩
  obtain⟨hne,rfl⟩:=hq'
  simp only[List.cons_append,SeqT,wantedS_eq]at h
  simp only[aquiets,ho]
  cases hw:wantedA ops o t with
  | false =>
   rw[hw]at h
   obtain⟨t',seen',w',a1,a2,a3,a4,a5,a6⟩:=quiets_ok ops mask l hr hs h
   exact⟨t',seen',w',a1,a2,a3,fun s q=>(a4 s q).imp id (List.mem_cons_of_mem _),a5,a6⟩
  | true =>
   rw[hw]at h
   simp only[StepT]at h
   have hk:kind (bare o).op=kind o.op:=rfl
   rw[hk]at h
   cases hkk:kind o.op with
   | quiet =>
    rw[hkk]at h
    obtain⟨v,h1,h0,h2⟩:=h
    have h1':quiet (prg P) t w o=some v:=h1
    simp only[h1']
    have hs':SeenOk (prg P) mask w (⟨i,o,t,v⟩ :: seen):=fun s q=>by
     rcases List.mem_cons.mp q with e|e
     . subst e;exact .inr ⟨h1',h0 trivial⟩
     . exact hs s e
    obtain⟨t',seen',w',a1,a2,a3,a4,a5,a6⟩:=quiets_ok ops mask l hr hs' h2
    refine⟨t',seen',w',a1,a2,a3,fun s q=>?_,a5,fun s q=>a6 s (List.mem_cons_of_mem _ q)⟩
    rcases a4 s q with e|e
    . rcases List.mem_cons.mp e with e|e
      . subst e;exact .inr List.mem_cons_self
      . exact .inl e
    . exact .inr (List.mem_cons_of_mem _ e)
   | makes =>
    rw[hkk]at h
    obtain⟨c,e,f,h1,h0,h2⟩:=h
    have h1':makes (prg P) t o.op=some (c,e,f):=h1
    have hfull:w.full=false:=rfl
    simp only[hfull,h1']
    have hle:=(h0 trivial).le (.cells c e w.next 0 0)
    obtain⟨t',seen',w',a1,a2,a3,a4,a5,a6⟩:=quiets_ok ops mask l hr (hs.le hle) h2
    exact⟨t',seen',w',a1,a2,hle.trans a3,fun s q=>(a4 s q).imp id (List.mem_cons_of_mem _),a5,a6⟩
   | effect=>exact absurd hkk hne
theorem phases_ok (ops:Array Oper) (before:Array Nat):∀ (l:List Phase) {mask:Nat} {idx:List Nat} {ss:List SOp} {t:Tmps} {w:AW} {seen:List Seen} {Q:Tmps->AW->Prop},
    sPhases ops before l mask idx=some ss->SeenOk (prg P) mask w seen->(∀ s ∈ seen,s.i ∈ idx)->SeqT P told true ss t w Q->PhasesT P told ops before l mask t seen w Q
 | [],mask,idx,ss,t,w,seen,Q,hp,hs,hi,h=>by
  simp only[sPhases,Option.some.injEq]at hp
  subst hp
  exact⟨0,t,w,fun _ _ _ _=>rfl,h⟩
 | ph :: l, mask,idx,ss,t,w,seen,Q,hp,hs,hi,h=>by
  simp only[sPhases]at hp
  split at hp
  case h_1=>cases hp
  rename_i qs hqs
  split at hp
  · rename_i heff
    split at hp
    case h_2=>cases hp
    rename_i r hr
    injection hp with hp;subst hp
    obtain⟨t',seen',w',a1,a2,a3,a4,a5,a6⟩:=quiets_ok ops mask ph.quiets hqs hs h
    have hi':∀ s ∈ seen',s.i ∈ idx++ph.quiets:=fun s q=>by
     rcases a4 s q with e|e
     . exact List.mem_append_left _ (hi s e)
     . exact List.mem_append_right _ e
    obtain⟨N,t2,w2,b1,b2⟩:=phases_ok ops before l hr a2 hi' a5
    refine⟨N,t2,w2,fun F n hF hn=>?_,b2⟩
    have look1:looksAgain (prg P) mask w' seen=true:=looks_of fun s q=>a2 s (a6 s q)
    have look2:looksAgain (prg P) mask w' seen'=true:=looks_of a2
    cases hnb:Nat.beq w'.next w.next <;> simp only[aphases,a1,hnb,look1,look2,heff] <;> exact b1 F n hF hn
  · rename_i i heff
    split at hp
    case h_1=>cases hp
    rename_i o ho
    split at hp
    case h_1=>cases hp
    rename_i hall
    simp only[Bool.and_eq_true]at hall
    obtain⟨hall,hke⟩:=hall
    have hke:kind o.op=.effect:=by
     unfold isEffect at hke
     split at hke
     . assumption
     . cases hke
    split at hp
    case h_2=>cases hp
    rename_i r hr
    injection hp with hp;subst hp
    obtain⟨t',seen',w',a1,a2,a3,a4,a5,a6⟩:=quiets_ok ops mask ph.quiets hqs hs h
    have hi':∀ s ∈ seen',s.i ∈ idx++ph.quiets:=fun s q=>by
     rcases a4 s q with e|e
     . exact List.mem_append_left _ (hi s e)
     . exact List.mem_append_right _ e
    have look1:looksAgain (prg P) mask w' seen=true:=looks_of fun s q=>a2 s (a6 s q)
    have look2:looksAgain (prg P) mask w' seen'=true:=looks_of a2
    simp only[SeqT,wantedS_eq]at a5
    have go_on:∀ w2,(((idx++ph.quiets).any fun j=>!(before.getD i 0).testBit j)=true->WLe w' w2)->SeenOk (prg P) (before.getD i 0) w2 seen':=by
     intro w2 hle s q
     cases hb:(before.getD i 0).testBit s.i with
     | true=>exact .inl rfl
     | false =>
      have hx:=hi' s q
      have hany:((idx++ph.quiets).any fun j=>!(before.getD i 0).testBit j)=true:=List.any_eq_true.mpr ⟨s.i,hx,by simp only[hb,Bool.not_false]⟩
      have hm:=List.all_eq_true.mp hall s.i hx
      rw[hb]at hm
      rcases a2 s q with e|e
      . rw[e]at hm;cases hm
      . exact .inr (e.le (hle hany))
    cases hw:wantedA ops o t' with
    | false =>
     rw[hw]at a5
     obtain⟨N,t2,w2,b1,b2⟩:=phases_ok ops before l hr (go_on w' fun _=>.refl _) hi' a5
     refine⟨N,t2,w2,fun F n hF hn=>?_,b2⟩
     cases hnb:Nat.beq w'.next w.next <;> simp only[aphases,a1,hnb,look1,look2,heff,aeffect,ho,hw] <;> exact b1 F n hF hn
    | true =>
     rw[hw]at a5
     simp only[StepT]at a5
     have hk:kind (bare o).op=kind o.op:=rfl
     rw[hk]at a5
     have fin:(EffT P told (bare o) t' w' fun t2 w2=>(True->((idx++ph.quiets).any fun j=>!(before.getD i 0).testBit j)=true->WLe w' w2)/\SeqT P told true r t2 w2 Q) ->
         PhasesT P told ops before (ph :: l) mask t seen w Q:=by
      rintro ⟨N,t2,w2,e1,e2,e3⟩
      have e1:∀ F n,N≤F->N≤n->effect (prg P) (acall (prg P) told F n) o t' w'=.ok t2 w2:=e1
      obtain⟨N2,t3,w3,b1,b2⟩:=phases_ok ops before l hr (go_on w2 (e2 trivial)) hi' e3
      refine⟨N+N2,t3,w3,fun F n hF hn=>?_,b2⟩
      cases hnb:Nat.beq w'.next w.next <;> simp only[aphases,a1,hnb,look1,look2,heff,aeffect,ho,hw,e1 F n (by omega) (by omega)] <;> exact b1 F n (by omega) (by omega)
     rw[hke]at a5
     exact fin a5
end
end Go.Sim

namespace Go.Sim
open Go Go.RowKit
inductive Tok {α:Type} (a:α):Type where
 | mk
def Then {α:Type} (o:Option α) (K:α->Prop) (_:Tok K):Prop:=∃ v,o=some v/\K v
theorem Then_some {α:Type} {v:α} {K:α->Prop} {x:Tok K}:Then (some v) K x=K v:=by simp[Then]
def Wants (b:Bool) (A B:Prop) (_:Tok (A,B)):Prop:=match b with|true=>A|false=>B
theorem Wants_true {A B:Prop} {x:Tok (A,B)}:Wants true A B x=A:=rfl
theorem Wants_false {A B:Prop} {x:Tok (A,B)}:Wants false A B x=B:=rfl
def Owes (a:Bool) (A B:Prop) (_:Tok (A,B)):Prop:=(a=true->A)/\B
theorem Owes_false {A B:Prop} {x:Tok (A,B)}:Owes false A B x=B:=by simp[Owes]
theorem Owes_true {A B:Prop} {x:Tok (A,B)} (h:A):Owes true A B x=B:=by simp[Owes,h]
def Cond (v:Value) (A B:Prop) (_:Tok (A,B)):Prop:=∃ x,v=.bool x/\(x=true->A)/\(x=false->B)
theorem Cond_true {A B:Prop} {x:Tok (A,B)}:Cond (.bool true) A B x=A:=by simp[Cond]
theorem Cond_false {A B:Prop} {x:Tok (A,B)}:Cond (.bool false) A B x=B:=by simp[Cond]
def intQ (op:BinOp) (k:IntKind) (a b:Int):Option Value :=
 match op with
 | .add=>some (.int k (k.wrap (a+b)))
 | .sub=>some (.int k (k.wrap (a - b)))
 | .mul=>some (.int k (k.wrap (a * b)))
 | .quo=>if b=0 then none else some (.int k (k.wrap (a.tdiv b)))
 | .rem=>if b=0 then none else some (.int k (a.tmod b))
 | .lss=>some (.bool (decide (a < b)))
 | .leq=>some (.bool (decide (a≤b)))
 | .gtr=>some (.bool (decide (b < a)))
 | .geq=>some (.bool (decide (b≤a)))
 | .eql=>some (.bool (decide (a=b)))
 | .neq=>some (.bool (!decide (a=b)))
 | .and=>some (.int k (k.wrap ((BitVec.ofInt k.bits a &&& BitVec.ofInt k.bits b).toNat:Int)))
 | .or=>some (.int k (k.wrap ((BitVec.ofInt k.bits a ||| BitVec.ofInt k.bits b).toNat:Int)))
 | .andNot=>some (.int k (k.wrap ((BitVec.ofInt k.bits a &&& ~~~ BitVec.ofInt k.bits b).toNat:Int)))
 | _=>none
def binQ (op:BinOp) (x y:Value):Option Value :=
 match x,y with
 | .int k a,.int k' b=>match op with
  | .shl=>if b < 0 then none else some (.int k (k.wrap (a * 2 ^ (min b.toNat k.bits))))
  | .shr=>if b < 0 then none else some (.int k (a.fdiv (2 ^ (min b.toNat k.bits))))
  | op=>match sameKind k k' with
   | true=>intQ op k a b
   | false=>none
 | _,_=>none
def unQ (op:UnOp) (x:Value):Option Value :=
 match op,x with
 | .neg,.int k n=>some (.int k (k.wrap (0 - n)))
 | .not,.bool b=>some (.bool !b)
 | _,_=>none
def maxQ (x y:Value):Option Value :=
 match x,y with
 | .int k a,.int _ b=>some (.int k (max a b))
 | _,_=>none
def minQ (x y:Value):Option Value :=
 match x,y with
 | .int k a,.int _ b=>some (.int k (min a b))
 | _,_=>none
def eqQ (P:Program) (op:BinOp) (ty:TypeId) (x y:Value):Option Value :=
 match (match x,y with|.bool _,.bool _|.agg _,.agg _=>flat 6 x && flat 6 y|_,_=>false) with
 | true=>match prun P (do eqGuard op ty (.const undef) (.const undef) x y;Go.binOp op ty x y) with
  | some v=>match flat 6 v with
   | true=>some v
   | false=>none
  | none=>none
 | false=>none
def lenSQ (g:Prg) (ty:TypeId) (x:Value):Option Value :=
 match g.p.underlying ty,x with
 | some .string,.string s=>some (.int .i64 s.size)
 | _,_=>none
def indexSQ (g:Prg) (ty:TypeId) (x i:Value):Option Value :=
 match g.p.underlying ty,x,i with
 | some .string,.string s,.int _ n=>match (if 0≤n then s[n.toNat]? else none) with
  | some b=>some (.int .u8 b.toNat)
  | none=>none
 | _,_,_=>none
def convQ (g:Prg) (src dst:TypeId) (x:Value):Option Value :=
 match g.p.underlying src,g.p.underlying dst,x with
 | some (.int _),some (.int k),.int _ n=>some (.int k (k.wrap n))
 | _,_,_=>none
def QV (g:Prg) (t:Tmps) (w:AW) (op:Op):Option Value :=
 match op with
 | .binOp op ty x y r=>match binQ op (ev t x) (ev t y) with
  | some v=>some v
  | none=>match eqQ g.p op ty (ev t x) (ev t y) with
   | some v=>some v
   | none=>fast g t w (.binOp op ty x y r)
 | .unOp op _ x=>unQ op (ev t x)
 | .call ⟨.builtin .max,args,_⟩=>match args.toList with
  | [x,y]=>maxQ (ev t x) (ev t y)
  | _=>none
 | .call ⟨.builtin .min,args,_⟩=>match args.toList with
  | [x,y]=>minQ (ev t x) (ev t y)
  | _=>none
 | .call ⟨.builtin .len,args,tys⟩=>match fast g t w (.call ⟨.builtin .len,args,tys⟩) with
  | some v=>some v
  | none=>match args.toList,tys.toList with
   | [x],[ty]=>lenSQ g ty (ev t x)
   | _,_=>none
 | .index s x i=>match fast g t w (.index s x i) with
  | some v=>some v
  | none=>indexSQ g s (ev t x) (ev t i)
 | .convert src dst x=>match fast g t w (.convert src dst x) with
  | some v=>some v
  | none=>convQ g src dst (ev t x)
 | o=>fast g t w o
theorem quiet_fast {g:Prg} {t:Tmps} {w:AW} {o:Oper} {v:Value} (h:fast g t w o.op=some v):quiet g t w o=some v:=by
 unfold quiet;rw[h]
theorem quiet_slow {g:Prg} {t:Tmps} {w:AW} {o:Oper} {v:Value} (h:fast g t w o.op=none) (hk:flatKind o.op=true) (hf:flatOps t o.op.operands.toList=true)
    (hp:prun g.p (execOp (ev t) o)=some (.value v)) (hv:flat 6 v=true):quiet g t w o=some v:=by
 unfold quiet;rw[h];simp only[hk,hf,Bool.and_self,hp,hv]
theorem fast_bin {g:Prg} {t:Tmps} {w:AW} {op:BinOp} {ty r:TypeId} {x y:Operand} {v:Value} (h:binV op (ev t x) (ev t y)=some v):fast g t w (.binOp op ty x y r)=some v:=by
 simp only[fast,h]
theorem fast_bin_none {g:Prg} {t:Tmps} {w:AW} {op:BinOp} {ty r:TypeId} {x y:Operand} (h:binV op (ev t x) (ev t y)=none) (k:∀ d,eqNilV d op (ev t x) (ev t y)=none) (hf:flat 6 (ev t x)=true):fast g t w (.binOp op ty x y r)=none:=by
 have hn:∀ d,nilC d op y (ev t x)=none:=fun d=>by
  unfold nilC
  split
  . rename_i e;rw[e]at hf;cases hf
  . rfl
 simp only[fast,h]
 split
 . rw[hn];exact k _
 . rfl
theorem quiet_bin {g:Prg} {t:Tmps} {w:AW} {o:Oper} {op:BinOp} {ty r:TypeId} {x y:Operand} {v:Value} (ho:o.op=.binOp op ty x y r) (h:binQ op (ev t x) (ev t y)=some v):quiet g t w o=some v:=by
 have slow:∀ {u:Value},binV op (ev t x) (ev t y)=none->(∀ d,eqNilV d op (ev t x) (ev t y)=none)->flat 6 (ev t x)=true->flat 6 (ev t y)=true ->
     (prun g.p (execOp (ev t) o)=some (.value u))->flat 6 u=true->quiet g t w o=some u:=by
  intro u h1 h2 h3 h4 h5 h6
  refine quiet_slow (by rw[ho];exact fast_bin_none h1 h2 h3) (by rw[ho];rfl) (by rw[ho];simp[Op.operands,flatOps,h3,h4]) h5 h6
 have quick:∀ {u:Value},binV op (ev t x) (ev t y)=some u->quiet g t w o=some u:=fun q=>quiet_fast (by rw[ho];exact fast_bin q)
 have hex:execOp (ev t) o=(do let z <- (do eqGuard op ty x y (ev t x) (ev t y);Go.binOp op ty (ev t x) (ev t y));pure (.value z)):=by
  simp only[execOp,ho]
 generalize hX:ev t x=X at *
 generalize hY:ev t y=Y at *
 unfold binQ at h
 split at h
 · rename_i k a k' b
   split at h
   · split at h
     . cases h
     . rename_i hb
       injection h with h;subst h
       refine slow (by cases hs:sameKind k k' <;> simp[binV,hs]) (fun d=>by cases d <;> rfl) rfl rfl ?_ rfl
       rw[hex]
       simp[eqGuard,Go.binOp,Op.shift,hb];rfl
   · split at h
     . cases h
     . rename_i hb
       injection h with h;subst h
       refine slow (by cases hs:sameKind k k' <;> simp[binV,hs]) (fun d=>by cases d <;> rfl) rfl rfl ?_ rfl
       rw[hex]
       simp[eqGuard,Go.binOp,Op.shift,hb];rfl
   · split at h
     case h_2=>cases h
     rename_i hk
     obtain rfl:=sameKind_eq hk
     cases op <;> simp only[intQ,Option.some.injEq,reduceCtorEq]at h
     case add=>subst h;exact quick (by simp only[binV,hk,small_eq])
     case sub=>subst h;exact quick (by simp only[binV,hk,small_eq])
     case lss=>subst h;exact quick (by simp only[binV,hk,intLt_eq])
     case leq=>subst h;refine quick ?_;simp only[binV,hk,intLt_eq];congr 2;rw[<- decide_not];exact decide_eq_decide.2 (by omega)
     case gtr=>subst h;exact quick (by simp only[binV,hk,intLt_eq])
     case geq=>subst h;refine quick ?_;simp only[binV,hk,intLt_eq];congr 2;rw[<- decide_not];exact decide_eq_decide.2 (by omega)
     case eql=>subst h;refine quick ?_;simp only[binV,hk,intEq_eq];congr 2
     case neq=>subst h;refine quick ?_;simp only[binV,hk,intEq_eq];congr 3
     case mul =>
      subst h
      refine slow (by simp only[binV,hk]) (fun d=>by cases d <;> rfl) rfl rfl ?_ rfl
      rw[hex]
      simp[eqGuard,Go.binOp,Op.intArith];rfl
     case quo =>
      split at h
      . cases h
      . rename_i hb
        injection h with h;subst h
        refine slow (by simp only[binV,hk]) (fun d=>by cases d <;> rfl) rfl rfl ?_ rfl
        rw[hex]
        simp[eqGuard,Go.binOp,Op.intDiv,hb];rfl
     case rem =>
      split at h
      . cases h
      . rename_i hb
        injection h with h;subst h
        refine slow (by simp only[binV,hk]) (fun d=>by cases d <;> rfl) rfl rfl ?_ rfl
        rw[hex]
        simp[eqGuard,Go.binOp,Op.intDiv,hb];rfl
     case and =>
      subst h
      refine slow (by simp only[binV,hk]) (fun d=>by cases d <;> rfl) rfl rfl ?_ rfl
      rw[hex]
      simp[eqGuard,Go.binOp,Op.intBits];rfl
     case or =>
      subst h
      refine slow (by simp only[binV,hk]) (fun d=>by cases d <;> rfl) rfl rfl ?_ rfl
      rw[hex]
      simp[eqGuard,Go.binOp,Op.intBits];rfl
     case andNot =>
      subst h
      refine slow (by simp only[binV,hk]) (fun d=>by cases d <;> rfl) rfl rfl ?_ rfl
      rw[hex]
      simp[eqGuard,Go.binOp,Op.intBits];rfl
 . cases h
theorem quiet_un {g:Prg} {t:Tmps} {w:AW} {o:Oper} {op:UnOp} {ty:TypeId} {x:Operand} {v:Value} (ho:o.op=.unOp op ty x) (h:unQ op (ev t x)=some v):quiet g t w o=some v:=by
 have hex:execOp (ev t) o=(do let z <- Op.unary op (ev t x);pure (.value z)):=by simp only[execOp,ho]
 have hfl:flat 6 (ev t x)=true->prun g.p (execOp (ev t) o)=some (.value v)->flat 6 v=true->quiet g t w o=some v:=fun h1 h2 h3 =>
  quiet_slow (by rw[ho];rfl) (by rw[ho];rfl) (by rw[ho];simp[Op.operands,flatOps,h1]) h2 h3
 generalize ev t x=X at *
 unfold unQ at h
 split at h
 . injection h with h;subst h
   exact hfl rfl (by rw[hex];simp[Op.unary,Op.intArith];rfl) rfl
 . injection h with h;subst h
   exact hfl rfl (by rw[hex];simp[Op.unary];rfl) rfl
 . cases h
theorem quiet_max {g:Prg} {t:Tmps} {w:AW} {o:Oper} {args:Array Operand} {tys:Array TypeId} {x y:Operand} {v:Value} (ho:o.op=.call ⟨.builtin .max,args,tys⟩) (ha:args.toList=[x,y]) (h:maxQ (ev t x) (ev t y)=some v):quiet g t w o=some v:=by
 have he:args = #[x,y]:=Array.ext' (by simpa using ha)
 have hf:fast g t w o.op=none:=by rw[ho];rfl
 unfold maxQ at h
 split at h
 . rename_i k a k' b hx hy
   injection h with h;subst h
   refine quiet_slow hf (by rw[ho];rfl) (by rw[ho];simp[Op.operands,Call.operands,he,flatOps,hx,hy,flat]) ?_ rfl
   simp only[execOp,ho,resolve,he]
   simp[invoke,builtin,hx,hy,Builtin.max_,Builtin.max2]
   have:(if a < b then b else a)=max a b:=by rw[Int.max_def];split <;> split <;> omega
   rw[this]
   rfl
 . cases h
theorem quiet_min {g:Prg} {t:Tmps} {w:AW} {o:Oper} {args:Array Operand} {tys:Array TypeId} {x y:Operand} {v:Value} (ho:o.op=.call ⟨.builtin .min,args,tys⟩) (ha:args.toList=[x,y]) (h:minQ (ev t x) (ev t y)=some v):quiet g t w o=some v:=by
 have he:args = #[x,y]:=Array.ext' (by simpa using ha)
 have hf:fast g t w o.op=none:=by rw[ho];rfl
 unfold minQ at h
 split at h
 . rename_i k a k' b hx hy
   injection h with h;subst h
   refine quiet_slow hf (by rw[ho];rfl) (by rw[ho];simp[Op.operands,Call.operands,he,flatOps,hx,hy,flat]) ?_ rfl
   simp only[execOp,ho,resolve,he]
   simp[invoke,builtin,hx,hy,Builtin.min_,Builtin.min2]
   have:(if b < a then b else a)=min a b:=by rw[Int.min_def];split <;> split <;> omega
   rw[this]
   rfl
 . cases h
theorem prun_bind {α β:Type} (p:Program) (f:α->Sem β):∀ (x:Sem α) {a:α},prun p x=some a->prun p (x.bind f)=prun p (f a)
 | .pure b,a,h=>by simp only[prun,Option.some.injEq]at h;subst h;rfl
 | .program k,a,h=>prun_bind p f (k p) h
 | .mark m k,a,h=>prun_bind p f k h
 | .choose q k,a,h=>by
  simp only[prun]at h
  simp only[Sem.bind,prun]
  cases hq:q.forced with
  | true=>rw[hq]at h;exact prun_bind p f (k 0) h
  | false=>rw[hq]at h;cases h
 | .load ..,_,h=>by simp[prun]at h
 | .store ..,_,h=>by simp[prun]at h
 | .new ..,_,h=>by simp[prun]at h
 | .shape ..,_,h=>by simp[prun]at h
 | .freeze ..,_,h=>by simp[prun]at h
 | .frozen ..,_,h=>by simp[prun]at h
 | .getObj ..,_,h=>by simp[prun]at h
 | .setObj ..,_,h=>by simp[prun]at h
 | .sys ..,_,h=>by simp[prun]at h
 | .halt ..,_,h=>by simp[prun]at h
theorem quiet_eq {g:Prg} {t:Tmps} {w:AW} {o:Oper} {op:BinOp} {ty r:TypeId} {x y:Operand} {v:Value} (ho:o.op=.binOp op ty x y r) (h:eqQ g.p op ty (ev t x) (ev t y)=some v):quiet g t w o=some v:=by
 unfold eqQ at h
 split at h
 case h_2=>cases h
 rename_i hxy
 split at h
 case h_2=>cases h
 rename_i u hu
 split at h
 case h_2=>cases h
 rename_i hfl
 injection h with h;subst h
 have hg:eqGuard op ty x y (ev t x) (ev t y)=eqGuard op ty (.const undef) (.const undef) (ev t x) (ev t y):=by
  revert hxy
  generalize ev t x=X
  generalize ev t y=Y
  intro hxy
  split at hxy
  . rfl
  . rfl
  . cases hxy
 have hex:execOp (ev t) o=(do eqGuard op ty (.const undef) (.const undef) (ev t x) (ev t y);Go.binOp op ty (ev t x) (ev t y):Sem Value).bind fun z=>.pure (.value z):=by
  simp only[execOp,ho,hg];rfl
 have hp:prun g.p (execOp (ev t) o)=some (.value u):=by rw[hex,prun_bind _ _ _ hu];rfl
 have hflat:flat 6 (ev t x)=true/\flat 6 (ev t y)=true:=by
  split at hxy
  . simpa [Bool.and_eq_true] using hxy
  . simpa [Bool.and_eq_true] using hxy
  . cases hxy
 refine quiet_slow ?_ (by rw[ho];rfl) (by rw[ho];simp[Op.operands,flatOps,hflat.1,hflat.2]) hp hfl
 rw[ho]
 revert hxy
 generalize hX:ev t x=X
 generalize hY:ev t y=Y
 intro hxy
 split at hxy
 . exact fast_bin_none (y:=y) (by rw[hX,hY];rfl) (fun d=>by rw[hX,hY];cases op <;> cases d <;> rfl) hflat.1
 . exact fast_bin_none (y:=y) (by rw[hX,hY];rfl) (fun d=>by rw[hX,hY];cases op <;> cases d <;> rfl) hflat.1
 . cases hxy
theorem prun_underlying {P:Program} {ty:TypeId} {d:TypeDesc} (h:P.underlying ty=some d):prun P (underlying ty)=some d:=by
 simp[underlying,prun,Bind.bind,Sem.bind,program,h];rfl
theorem quiet_lenS {g:Prg} {t:Tmps} {w:AW} {o:Oper} {args:Array Operand} {tys:Array TypeId} {x:Operand} {ty:TypeId} {v:Value} (ho:o.op=.call ⟨.builtin .len,args,tys⟩) (ha:args.toList=[x]) (hb:tys.toList=[ty]) (hf:fast g t w o.op=none) (h:lenSQ g ty (ev t x)=some v):quiet g t w o=some v:=by
 have he:args = #[x]:=Array.ext' (by simpa using ha)
 have he2:tys = #[ty]:=Array.ext' (by simpa using hb)
 unfold lenSQ at h
 split at h
 . rename_i s hu hx
   injection h with h;subst h
   refine quiet_slow hf (by rw[ho];rfl) (by rw[ho];simp[Op.operands,Call.operands,he,flatOps,hx,flat]) ?_ rfl
   simp only[execOp,ho,resolve,he,he2]
   simp[invoke,builtin,hx,Builtin.len_]
   show prun g.p ((underlying ty).bind _)=_
   rw[prun_bind _ _ _ (prun_underlying hu)]
   rfl
 . cases h
theorem quiet_indexS {g:Prg} {t:Tmps} {w:AW} {o:Oper} {s:TypeId} {x i:Operand} {v:Value} (ho:o.op=.index s x i) (hf:fast g t w o.op=none) (h:indexSQ g s (ev t x) (ev t i)=some v):quiet g t w o=some v:=by
 unfold indexSQ at h
 split at h
 · rename_i b k n hu hx hi
   split at h
   . rename_i c hc
     injection h with h;subst h
     refine quiet_slow hf (by rw[ho];rfl) (by rw[ho];simp[Op.operands,flatOps,hx,hi,flat]) ?_ rfl
     simp only[execOp,ho,hx,hi]
     simp[Instr.index,asIntOf]
     show prun g.p ((underlying s).bind _)=_
     rw[prun_bind _ _ _ (prun_underlying hu)]
     simp[hc]
     rfl
   . cases h
 . cases h
theorem quiet_conv {g:Prg} {t:Tmps} {w:AW} {o:Oper} {src dst:TypeId} {x:Operand} {v:Value} (ho:o.op=.convert src dst x) (hf:fast g t w o.op=none) (h:convQ g src dst (ev t x)=some v):quiet g t w o=some v:=by
 unfold convQ at h
 split at h
 · rename_i k0 k k1 n hu hu2 hx
   injection h with h;subst h
   refine quiet_slow hf (by rw[ho];rfl) (by rw[ho];simp[Op.operands,flatOps,hx,flat]) ?_ rfl
   simp only[execOp,ho,hx]
   have hc:prun g.p (Go.convert src dst (.int k1 n))=some (.int k (k.wrap n)):=by
    show prun g.p ((underlying src).bind _)=_
    rw[prun_bind _ _ _ (prun_underlying hu)]
    show prun g.p ((underlying dst).bind _)=_
    rw[prun_bind _ _ _ (prun_underlying hu2)]
    rfl
   show prun g.p ((Go.convert src dst (.int k1 n)).bind _)=_
   rw[prun_bind _ _ _ hc]
   rfl
 . cases h
theorem QV_quiet {g:Prg} {t:Tmps} {w:AW} {o:Oper} {v:Value} (h:QV g t w o.op=some v):quiet g t w o=some v:=by
 unfold QV at h
 split at h
 · rename_i op ty x y r ho
   split at h
   . rename_i u hu
     injection h with h;subst h
     exact quiet_bin ho hu
   · split at h
     . rename_i u hu
       injection h with h;subst h
       exact quiet_eq ho hu
     . exact quiet_fast (by rw[ho];exact h)
 . rename_i ho;exact quiet_un ho h
 . rename_i args tys ho
   split at h
   . rename_i ha;exact quiet_max ho ha h
   . cases h
 . rename_i args tys ho
   split at h
   . rename_i ha;exact quiet_min ho ha h
   . cases h
 · rename_i args tys ho
   split at h
   . rename_i u hu
     injection h with h;subst h
     exact quiet_fast (by rw[ho];exact hu)
   . rename_i hu
     split at h
     . rename_i ha hb;exact quiet_lenS ho ha hb (by rw[ho];exact hu) h
     . cases h
 · rename_i s x i ho
   split at h
   . rename_i u hu
     injection h with h;subst h
     exact quiet_fast (by rw[ho];exact hu)
   . rename_i hu
     exact quiet_indexS ho (by rw[ho];exact hu) h
 · rename_i src dst x ho
   split at h
   . rename_i u hu
     injection h with h;subst h
     exact quiet_fast (by rw[ho];exact hu)
   . rename_i hu
     exact quiet_conv ho (by rw[ho];exact hu) h
 . exact quiet_fast h
section
variable (P:Program) (told:ToldF)
def EffR (o:Oper) (t:Tmps) (w:AW) (K:Tmps->AW->Prop):Prop :=
 match o.op with
 | .store ty a x=>Then ((prg P).ty ty) (fun i=>Then (storeV w i.agg i.size (ev t a) (ev t x)) (fun w'=>K (putTmp t o.dst undef) w') .mk) .mk
 | .call ⟨.builtin .append,args,tys⟩=>match args.toList,tys.toList with
  | [s,x],[sT,xT]=>Then (append (prg P) w sT xT (ev t s) (ev t x)) (fun r=>K (putTmp t o.dst r.1) r.2) .mk
  | _,_=>False
 | .makeSlice ty l c=>Then (makeSliceV (prg P) w ty (ev t l) (ev t c)) (fun r=>K (putTmp t o.dst r.1) r.2) .mk
 | .makeMap _ none=>K (putTmp t o.dst (.map (some w.next))) (w.push (.map #[] 0))
 | .mapUpdate ty m k x=>Then (updateV (prg P) w ty (ev t m) (ev t k) (ev t x)) (fun w'=>K (putTmp t o.dst undef) w') .mk
 | .insert ty m k x=>Then (updateV (prg P) w ty (ev t m) (ev t k) (ev t x)) (fun w'=>K (putTmp t o.dst undef) w') .mk
 | .call ⟨.value f,args,_⟩=>∃ fn first captured,ev t f=.func fn first captured/\CallT P told (.fn fn captured) (first++args.map (ev t)) w fun v w'=>K (putTmp t o.dst v) w'
 | .call ⟨.invoke r name,args,_⟩=>∃ f v,methodV (prg P) (ev t r) name=some (f,v)/\CallT P told (.fn (.func f) #[]) (#[v]++args.map (ev t)) w fun v w'=>K (putTmp t o.dst v) w'
 | _=>EffT P told o t w K
def StepR (draw tie:Bool) (o:Oper) (t:Tmps) (w:AW) (K:Tmps->AW->Prop) (_:Tok (o,t,w,K)):Prop :=
 match kind o.op with
 | .quiet=>Then (QV (prg P) t w o.op) (fun v=>Owes draw (same 12 v v=true) (K (putTmp t o.dst v) w) .mk) .mk
 | .makes=>Then (makes (prg P) t o.op) (fun r=>Owes draw (Fresh w) (K (putTmp t o.dst (r.2.2 w.next)) (w.push (.cells r.1 r.2.1 w.next 0 0))) .mk) .mk
 | .effect=>EffR P told o t w fun t' w'=>Owes (draw && tie) (WLe w w') (K t' w') .mk
def SeqR (draw:Bool):(l:List SOp)->(t:Tmps)->(w:AW)->(Q:Tmps->AW->Prop)->Tok (l,t,w,Q)->Prop
 | [],t,w,Q,_=>Q t w
 | ⟨o,g,tie⟩ :: l,t,w,Q,_=>Wants (wantedS g t) (StepR P told draw tie o t w (fun t w=>SeqR draw l t w Q .mk) .mk) (SeqR draw l (putTmp t o.dst undef) w Q .mk) .mk
variable {P told}
theorem EffR.mono {o:Oper} {t:Tmps} {w:AW} {K L:Tmps->AW->Prop} (h:EffR P told o t w K) (k:∀ t w,K t w->L t w):EffR P told o t w L:=by
 unfold EffR at h ⊢
 split at h
 . obtain⟨i,hi,w',hw,q⟩:=h;exact⟨i,hi,w',hw,k _ _ q⟩
 . split at h
   . obtain⟨r,hr,q⟩:=h;exact⟨r,hr,k _ _ q⟩
   . exact h
 . obtain⟨r,hr,q⟩:=h;exact⟨r,hr,k _ _ q⟩
 . exact k _ _ h
 . obtain⟨r,hr,q⟩:=h;exact⟨r,hr,k _ _ q⟩
 . obtain⟨r,hr,q⟩:=h;exact⟨r,hr,k _ _ q⟩
 . obtain⟨fn,first,cap,he,q⟩:=h;exact⟨fn,first,cap,he,q.mono fun v w'=>k _ _⟩
 . obtain⟨f,u,he,q⟩:=h;exact⟨f,u,he,q.mono fun v w'=>k _ _⟩
 . exact EffT.mono h k
theorem effR_effT {o:Oper} {t:Tmps} {w:AW} {K:Tmps->AW->Prop} (h:EffR P told o t w K):EffT P told o t w K:=by
 unfold EffR at h
 split at h
 . rename_i ty a x ho
   obtain⟨i,hi,w',hw,q⟩:=h
   refine effT_still (fun call=>?_) q
   simp only[effect,ho,hi,hw,wrote]
 · rename_i args tys ho
   split at h
   . rename_i s x sT xT ha ht
     obtain⟨r,hr,q⟩:=h
     refine effT_still (fun call=>?_) q
     simp only[effect,ho,ha,ht,hr,gave]
   . exact h.elim
 . rename_i ty l c ho
   obtain⟨r,hr,q⟩:=h
   refine effT_still (fun call=>?_) q
   simp only[effect,ho,hr,gave]
 . rename_i ty ho
   have hfull:w.full=false:=rfl
   refine effT_still (fun call=>?_) h
   simp only[effect,ho,hfull]
 . rename_i ty m x y ho
   obtain⟨r,hr,q⟩:=h
   refine effT_still (fun call=>?_) q
   simp only[effect,ho,hr,wrote]
 . rename_i ty m x y ho
   obtain⟨r,hr,q⟩:=h
   refine effT_still (fun call=>?_) q
   simp only[effect,ho,hr,wrote]
 . rename_i f args tys ho
   obtain⟨fn,first,cap,he,q⟩:=h
   exact effT_call ho he q
 . rename_i r name args tys ho
   obtain⟨f,u,he,q⟩:=h
   exact effT_invoke ho he q
 . exact h
theorem stepR_stepT {draw tie:Bool} {o:Oper} {t:Tmps} {w:AW} {K:Tmps->AW->Prop} {x:Tok (o,t,w,K)} (h:StepR P told draw tie o t w K x):StepT P told draw tie o t w K:=by
 unfold StepR at h
 unfold StepT
 split at h
 . rename_i hk
   try rw[hk]
   obtain⟨v,hv,q1,q2⟩:=h
   exact⟨v,QV_quiet hv,q1,q2⟩
 . rename_i hk
   try rw[hk]
   obtain⟨⟨c,e,f⟩,hv,q1,q2⟩:=h
   exact⟨c,e,f,hv,q1,q2⟩
 . rename_i hk
   try rw[hk]
   exact effR_effT (h.mono fun t' w' q=>⟨fun a b=>q.1 (by rw[a,b];rfl),q.2⟩)
theorem StepT.mono {draw tie:Bool} {o:Oper} {t:Tmps} {w:AW} {K L:Tmps->AW->Prop} (h:StepT P told draw tie o t w K) (k:∀ t w,K t w->L t w):StepT P told draw tie o t w L:=by
 unfold StepT at h ⊢
 split at h
 . obtain⟨v,a,b,c⟩:=h;exact⟨v,a,b,k _ _ c⟩
 . obtain⟨c,e,f,a,b,d⟩:=h;exact⟨c,e,f,a,b,k _ _ d⟩
 . exact EffT.mono h fun t' w' q=>⟨q.1,k _ _ q.2⟩
theorem seqR_seqT {draw:Bool}:∀ {l:List SOp} {t:Tmps} {w:AW} {Q:Tmps->AW->Prop} {x:Tok (l,t,w,Q)},SeqR P told draw l t w Q x->SeqT P told draw l t w Q
 | [],t,w,Q,_,h=>h
 | ⟨o,g,tie⟩ :: l,t,w,Q,_,h=>by
  simp only[SeqR]at h
  simp only[SeqT]
  cases hw:wantedS g t with
  | true =>
   rw[hw]at h
   have h:StepR P told draw tie o t w (fun t w=>SeqR P told draw l t w Q .mk) .mk:=h
   exact (stepR_stepT h).mono fun t w q=>seqR_seqT q
  | false =>
   rw[hw]at h
   exact seqR_seqT (h:SeqR P told draw l (putTmp t o.dst undef) w Q .mk)
end
inductive SC where
 | skip
 | ops (draw:Bool) (l:List SOp)
 | seq (a b:SC)
 | cond (c:Operand) (a b:SC)
 | block (id:Nat) (b:SC)
 | loop (b:SC)
 | exit (id:Nat)
 | ret
 | raw (c:Code)
def sOf : Code->SC
 | .skip|.label _=>.skip
 | .region id ops draw=>match hasDefer ops.toList with
  | true=>.raw (.region id ops draw)
  | false=>match draw with
   | false=>.ops false (ops.toList.map fun o=>⟨bare o,guardOf ops o,false⟩)
   | true=>match planOf ops with
    | some p=>match sPhases ops p.before p.phases 0 [] with
     | some l=>.ops true l
     | none=>.raw (.region id ops true)
    | none=>.raw (.region id ops true)
 | .seq a b=>.seq (sOf a) (sOf b)
 | .cond c a b=>.cond c (sOf a) (sOf b)
 | .block id b=>.block id (sOf b)
 | .loop b=>.loop (sOf b)
 | .scope b=>sOf b
 | .exit id=>.exit id
 | .ret=>.ret
 | c=>.raw c
section
variable (P:Program) (told:ToldF) (env:Env)
abbrev Post:=Ex->Tmps->List DI->AW->Prop
def seqQ (b:Tmps->List DI->AW->Prop) (Q:Post):Post
 | .normal,t,ds,w=>b t ds w
 | .exit id,t,ds,w=>Q (.exit id) t ds w
 | .ret,t,ds,w=>Q .ret t ds w
 | .pan v,t,ds,w=>Q (.pan v) t ds w
def blockQ (id:Nat) (Q:Post):Post
 | .normal,t,ds,w=>Q .normal t ds w
 | .exit i,t,ds,w=>Wants (Nat.beq i id) (Q .normal t ds w) (Q (.exit i) t ds w) .mk
 | .ret,t,ds,w=>Q .ret t ds w
 | .pan v,t,ds,w=>Q (.pan v) t ds w
def loopQ (I:Nat->Tmps->List DI->AW->Prop) (k:Nat) (Q:Post):Post
 | .normal,t,ds,w=>∃ j,j < k/\I j t ds w
 | .exit id,t,ds,w=>Q (.exit id) t ds w
 | .ret,t,ds,w=>Q .ret t ds w
 | .pan v,t,ds,w=>Q (.pan v) t ds w
def LoopR (R:Tmps->List DI->AW->Post->Prop) (t:Tmps) (ds:List DI) (w:AW) (Q:Post) (_:Tok (R,t,ds,w,Q)):Prop :=
 ∃ I k,I k t ds w/\∀ k t ds w,I k t ds w->R t ds w (loopQ I k Q)
def CodeR:(s:SC)->(t:Tmps)->(ds:List DI)->(w:AW)->(Q:Post)->Tok (s,t,ds,w,Q)->Prop
 | .skip,t,ds,w,Q,_=>Q .normal t ds w
 | .ops draw l,t,ds,w,Q,_=>SeqR P told draw l t w (fun t' w'=>Q .normal t' ds w') .mk
 | .seq a b,t,ds,w,Q,_=>CodeR a t ds w (seqQ (fun t ds w=>CodeR b t ds w Q .mk) Q) .mk
 | .cond c a b,t,ds,w,Q,_=>Cond (ev t c) (CodeR a t ds w Q .mk) (CodeR b t ds w Q .mk) .mk
 | .block id b,t,ds,w,Q,_=>CodeR b t ds w (blockQ id Q) .mk
 | .loop b,t,ds,w,Q,_=>LoopR (fun t ds w Q=>CodeR b t ds w Q .mk) t ds w Q .mk
 | .exit id,t,ds,w,Q,_=>Q (.exit id) t ds w
 | .ret,t,ds,w,Q,_=>Q .ret t ds w
 | .raw c,t,ds,w,Q,_=>CodeT P told env c t ds w Q
variable {P told env}
theorem codeR_codeT:∀ (c:Code) {t:Tmps} {ds:List DI} {w:AW} {Q:Post} {x:Tok (sOf c,t,ds,w,Q)},CodeR P told env (sOf c) t ds w Q x->CodeT P told env c t ds w Q:=by
 intro c
 induction c with
 | skip=>intro t ds w Q x h;exact codeT_skip h
 | label=>intro t ds w Q x h;exact codeT_label h
 | region id ops draw =>
  intro t ds w Q x h
  have key:∀ s,sOf (.region id ops draw)=s->∀ y:Tok (s,t,ds,w,Q),CodeR P told env s t ds w Q y->CodeR P told env s t ds w Q .mk:=fun s _ y q=>by cases y;exact q
  have h2:=key _ rfl x h
  clear key h
  revert h2
  simp only[sOf]
  cases hdf:hasDefer ops.toList with
  | true=>exact fun h=>h
  | false =>
  cases draw with
  | false=>exact fun h=>codeT_region hdf (seqT_region (seqR_seqT h))
  | true =>
   simp only
   cases hp:planOf ops with
   | none=>exact fun h=>h
   | some p =>
    simp only
    cases hs:sPhases ops p.before p.phases 0 [] with
    | none=>exact fun h=>h
    | some l =>
     intro h
     obtain⟨N,t',w',a,b⟩:=phases_ok (P:=P) (told:=told) ops p.before p.phases (seen:=[]) hs (fun s q=>by cases q) (fun s q=>by cases q) (seqR_seqT h)
     refine codeT_region hdf ⟨N,t',w',fun F n hF hn=>?_,b⟩
     obtain⟨ph,bf⟩:=p
     simp only[aregion,hp]
     rw[a F n hF hn];rfl
 | seq a b iha ihb =>
  intro t ds w Q x h
  refine codeT_seq ((iha h).mono ?_)
  intro e t' ds' w' q
  cases e with
  | normal=>exact ihb q
  | exit id=>exact q
  | ret=>exact q
  | pan v=>exact q
 | cond c a b iha ihb =>
  intro t ds w Q x h
  obtain⟨z,hx,h1,h2⟩:=h
  refine codeT_cond hx ?_
  cases z with
  | true=>exact iha (h1 rfl)
  | false=>exact ihb (h2 rfl)
 | block id b ih =>
  intro t ds w Q x h
  refine codeT_block ((ih h).mono ?_)
  intro e t' ds' w' q
  cases e with
  | normal=>exact q
  | ret=>exact q
  | pan v=>exact q
  | exit i =>
   simp only
   simp only[blockQ]at q
   cases hb:Nat.beq i id with
   | true=>rw[hb]at q;exact q
   | false=>rw[hb]at q;exact q
 | loop b ih =>
  intro t ds w Q x h
  obtain⟨I,k,h1,h2⟩:=h
  refine codeT_loop I (fun k t ds w hI=>(ih (h2 k t ds w hI)).mono ?_) k t ds w h1
  intro e t' ds' w' q
  cases e with
  | normal=>exact q
  | exit id=>exact q
  | ret=>exact q
  | pan v=>exact q
 | scope b ih=>intro t ds w Q x h;exact codeT_scope (ih h)
 | exit id=>intro t ds w Q x h;exact codeT_exit h
 | ret=>intro t ds w Q x h;exact codeT_ret h
 | goto l=>intro t ds w Q x h;exact h
 | refuse y=>intro t ds w Q x h;exact h
 | rangeFunc f ps a b iha ihb=>intro t ds w Q x h;exact h
end
end Go.Sim

namespace Go.Sim
open Go Go.RowKit
variable {P:Program} {told:ToldF} {env:Env}
theorem ev_put (t:Tmps) (d i:Nat) (v:Value):ev (putTmp t (some d) v) (.tmp i)=if i=d then v else ev t (.tmp i):=by
 by_cases h:i=d <;> simp[ev,putTmp,Trie.get_set _ _ _ _ (Trie.in_ _) (Trie.in_ _),h]
theorem ev_put_none (t:Tmps) (x:Operand) (v:Value):ev (putTmp t none v) x=ev t x:=rfl
theorem ev_const (t:Tmps) (v:Value):ev t (.const v)=v:=rfl
theorem ev_func (t:Tmps) (f:FuncId):ev t (.func f)=.func (.func f) #[] #[]:=rfl
theorem fill_cons (i:Nat) (v:Value) (l:List Value) (t:Tmps):fillFrom i (v :: l) t=fillFrom (i+1) l (putTmp t (some i) v):=rfl
theorem fill_nil (i:Nat) (t:Tmps):fillFrom i [] t=t:=rfl
theorem wants_none (t:Tmps):wantedS none t=true:=rfl
def guardB (v:Value) (want:Bool):Bool :=
 match v with
 | .bool b=>b == want
 | _=>false
theorem guardB_true (b:Bool):guardB (.bool b) true=b:=by cases b <;> rfl
theorem guardB_false (b:Bool):guardB (.bool b) false = !b:=by cases b <;> rfl
theorem wants_some (d:Tmp) (want:Bool) (t:Tmps):wantedS (some (some d,want)) t=guardB (ev t (.tmp d)) want:=by
 simp only[wantedS,ev]
 cases t.get d with
 | none=>rfl
 | some v=>cases v with
  | bool b=>cases b <;> cases want <;> rfl
  | _=>rfl
section
variable {draw tie:Bool} {d:Option Tmp} {ty0:TypeId} {pos:String} {af:Array Edge} {gd:Option (Nat × Bool)} {t:Tmps} {w:AW} {K:Tmps->AW->Prop}
theorem step_move {x:Operand} {tk:Tok ((⟨d,.move x,ty0,pos,af,gd⟩:Oper),t,w,K)}:StepR P told draw tie ⟨d,.move x,ty0,pos,af,gd⟩ t w K tk=Then (some (ev t x)) (fun v=>Owes draw (same 12 v v=true) (K (putTmp t d v) w) .mk) .mk:=rfl
theorem step_assign {x:Operand} {tk:Tok ((⟨d,.assign x,ty0,pos,af,gd⟩:Oper),t,w,K)}:StepR P told draw tie ⟨d,.assign x,ty0,pos,af,gd⟩ t w K tk=Then (some (ev t x)) (fun v=>Owes draw (same 12 v v=true) (K (putTmp t d v) w) .mk) .mk:=rfl
theorem step_pick {a b c:Operand} {tk:Tok ((⟨d,.pick c a b,ty0,pos,af,gd⟩:Oper),t,w,K)}:StepR P told draw tie ⟨d,.pick c a b,ty0,pos,af,gd⟩ t w K tk=Then (pickV (ev t c) (ev t a) (ev t b)) (fun v=>Owes draw (same 12 v v=true) (K (putTmp t d v) w) .mk) .mk:=rfl
def orElse (a b:Option Value):Option Value:=match a with|some v=>some v|none=>b
theorem orElse_some (v:Value) (b:Option Value):orElse (some v) b=some v:=rfl
theorem orElse_none (b:Option Value):orElse none b=b:=rfl
theorem step_bin {op:BinOp} {ty r:TypeId} {x y:Operand} {tk:Tok ((⟨d,.binOp op ty x y r,ty0,pos,af,gd⟩:Oper),t,w,K)}:StepR P told draw tie ⟨d,.binOp op ty x y r,ty0,pos,af,gd⟩ t w K tk =
    Then (orElse (binQ op (ev t x) (ev t y)) (orElse (eqQ P op ty (ev t x) (ev t y)) (fast (prg P) t w (.binOp op ty x y r)))) (fun v=>Owes draw (same 12 v v=true) (K (putTmp t d v) w) .mk) .mk:=rfl
theorem step_un {op:UnOp} {ty:TypeId} {x:Operand} {tk:Tok ((⟨d,.unOp op ty x,ty0,pos,af,gd⟩:Oper),t,w,K)}:StepR P told draw tie ⟨d,.unOp op ty x,ty0,pos,af,gd⟩ t w K tk=Then (unQ op (ev t x)) (fun v=>Owes draw (same 12 v v=true) (K (putTmp t d v) w) .mk) .mk:=rfl
theorem step_load {ty:TypeId} {a:Operand} {tk:Tok ((⟨d,.load ty a,ty0,pos,af,gd⟩:Oper),t,w,K)}:StepR P told draw tie ⟨d,.load ty a,ty0,pos,af,gd⟩ t w K tk =
    Then ((prg P).ty ty) (fun i=>Then (loadV w i.agg i.size (ev t a)) (fun v=>Owes draw (same 12 v v=true) (K (putTmp t d v) w) .mk) .mk) .mk:=by
 simp only[StepR,kind,QV,fast]
 cases (prg P).ty ty <;> simp[Then]
theorem step_fieldAddr {s:TypeId} {x:Operand} {f:Nat} {tk:Tok ((⟨d,.fieldAddr s x f,ty0,pos,af,gd⟩:Oper),t,w,K)}:StepR P told draw tie ⟨d,.fieldAddr s x f,ty0,pos,af,gd⟩ t w K tk =
    Then (fast (prg P) t w (.fieldAddr s x f)) (fun v=>Owes draw (same 12 v v=true) (K (putTmp t d v) w) .mk) .mk:=rfl
theorem step_indexAddr {s:TypeId} {x i:Operand} {tk:Tok ((⟨d,.indexAddr s x i,ty0,pos,af,gd⟩:Oper),t,w,K)}:StepR P told draw tie ⟨d,.indexAddr s x i,ty0,pos,af,gd⟩ t w K tk =
    Then (fast (prg P) t w (.indexAddr s x i)) (fun v=>Owes draw (same 12 v v=true) (K (putTmp t d v) w) .mk) .mk:=rfl
theorem step_field {s:TypeId} {x:Operand} {f:Nat} {tk:Tok ((⟨d,.field s x f,ty0,pos,af,gd⟩:Oper),t,w,K)}:StepR P told draw tie ⟨d,.field s x f,ty0,pos,af,gd⟩ t w K tk =
    Then (fast (prg P) t w (.field s x f)) (fun v=>Owes draw (same 12 v v=true) (K (putTmp t d v) w) .mk) .mk:=rfl
theorem step_convert {src dst:TypeId} {x:Operand} {tk:Tok ((⟨d,.convert src dst x,ty0,pos,af,gd⟩:Oper),t,w,K)}:StepR P told draw tie ⟨d,.convert src dst x,ty0,pos,af,gd⟩ t w K tk =
    Then (orElse (fast (prg P) t w (.convert src dst x)) (convQ (prg P) src dst (ev t x))) (fun v=>Owes draw (same 12 v v=true) (K (putTmp t d v) w) .mk) .mk:=rfl
theorem step_extract {x:Operand} {i:Nat} {tk:Tok ((⟨d,.extract x i,ty0,pos,af,gd⟩:Oper),t,w,K)}:StepR P told draw tie ⟨d,.extract x i,ty0,pos,af,gd⟩ t w K tk =
    Then (extractV i (ev t x)) (fun v=>Owes draw (same 12 v v=true) (K (putTmp t d v) w) .mk) .mk:=rfl
theorem step_build {ty:TypeId} {ps:Array (Nat × Operand)} {tk:Tok ((⟨d,.build ty ps,ty0,pos,af,gd⟩:Oper),t,w,K)}:StepR P told draw tie ⟨d,.build ty ps,ty0,pos,af,gd⟩ t w K tk =
    Then (fast (prg P) t w (.build ty ps)) (fun v=>Owes draw (same 12 v v=true) (K (putTmp t d v) w) .mk) .mk:=rfl
theorem step_slice {ty:TypeId} {x:Operand} {lo hi mx:Option Operand} {tk:Tok ((⟨d,.slice ty x lo hi mx,ty0,pos,af,gd⟩:Oper),t,w,K)}:StepR P told draw tie ⟨d,.slice ty x lo hi mx,ty0,pos,af,gd⟩ t w K tk =
    Then (fast (prg P) t w (.slice ty x lo hi mx)) (fun v=>Owes draw (same 12 v v=true) (K (putTmp t d v) w) .mk) .mk:=rfl
theorem step_makeFunc {f:Fn} {a b:Array Operand} {tk:Tok ((⟨d,.makeFunc f a b,ty0,pos,af,gd⟩:Oper),t,w,K)}:StepR P told draw tie ⟨d,.makeFunc f a b,ty0,pos,af,gd⟩ t w K tk =
    Then (fast (prg P) t w (.makeFunc f a b)) (fun v=>Owes draw (same 12 v v=true) (K (putTmp t d v) w) .mk) .mk:=rfl
theorem step_len {a:Operand} {ty:TypeId} {tk:Tok ((⟨d,.call ⟨.builtin .len,⟨[a]⟩,⟨[ty]⟩⟩,ty0,pos,af,gd⟩:Oper),t,w,K)}:StepR P told draw tie ⟨d,.call ⟨.builtin .len,⟨[a]⟩,⟨[ty]⟩⟩,ty0,pos,af,gd⟩ t w K tk =
    Then (orElse (fast (prg P) t w (.call ⟨.builtin .len,⟨[a]⟩,⟨[ty]⟩⟩)) (lenSQ (prg P) ty (ev t a))) (fun v=>Owes draw (same 12 v v=true) (K (putTmp t d v) w) .mk) .mk:=rfl
theorem step_alloc {e:TypeId} {tk:Tok ((⟨d,.alloc e,ty0,pos,af,gd⟩:Oper),t,w,K)}:StepR P told draw tie ⟨d,.alloc e,ty0,pos,af,gd⟩ t w K tk =
    Then ((prg P).ty e) (fun i=>Then (some i.zero.cells.toList) (fun l=>Then (some w.next) (fun n=>Owes draw (Fresh w) (K (putTmp t d (.pointer (some ⟨n,0,none⟩))) (w.push (.cells l e n 0 0))) .mk) .mk) .mk) .mk:=by
 simp only[StepR,kind,makes]
 cases (prg P).ty e <;> simp[Then]
theorem step_box {e:TypeId} {x:Operand} {tk:Tok ((⟨d,.box e x,ty0,pos,af,gd⟩:Oper),t,w,K)}:StepR P told draw tie ⟨d,.box e x,ty0,pos,af,gd⟩ t w K tk =
    Then (some (ev t x).cells.toList) (fun l=>Then (some w.next) (fun n=>Owes draw (Fresh w) (K (putTmp t d (.pointer (some ⟨n,0,none⟩))) (w.push (.cells l e n 0 0))) .mk) .mk) .mk:=by
 simp only[StepR,kind,makes]
 simp[Then]
theorem step_buildSlice {ty:TypeId} {n:Nat} {ps:Array (Nat × Operand)} {tk:Tok ((⟨d,.buildSlice ty n ps,ty0,pos,af,gd⟩:Oper),t,w,K)}:StepR P told draw tie ⟨d,.buildSlice ty n ps,ty0,pos,af,gd⟩ t w K tk =
    Then (makes (prg P) t (.buildSlice ty n ps)) (fun r=>Then (some w.next) (fun n=>Then (some (r.2.2 n)) (fun v=>Owes draw (Fresh w) (K (putTmp t d v) (w.push (.cells r.1 r.2.1 n 0 0))) .mk) .mk) .mk) .mk:=by
 simp only[StepR,kind]
 simp[Then]
theorem step_store {ty:TypeId} {a x:Operand} {tk:Tok ((⟨d,.store ty a x,ty0,pos,af,gd⟩:Oper),t,w,K)}:StepR P told draw tie ⟨d,.store ty a x,ty0,pos,af,gd⟩ t w K tk =
    Then ((prg P).ty ty) (fun i=>Then (storeV w i.agg i.size (ev t a) (ev t x)) (fun w'=>Owes (draw && tie) (WLe w w') (K (putTmp t d undef) w') .mk) .mk) .mk:=rfl
theorem step_append {a x:Operand} {sT xT:TypeId} {tk:Tok ((⟨d,.call ⟨.builtin .append,⟨[a,x]⟩,⟨[sT,xT]⟩⟩,ty0,pos,af,gd⟩:Oper),t,w,K)}:StepR P told draw tie ⟨d,.call ⟨.builtin .append,⟨[a,x]⟩,⟨[sT,xT]⟩⟩,ty0,pos,af,gd⟩ t w K tk =
    Then (append (prg P) w sT xT (ev t a) (ev t x)) (fun r=>Owes (draw && tie) (WLe w r.2) (K (putTmp t d r.1) r.2) .mk) .mk:=rfl
theorem step_makeMap {ty:TypeId} {tk:Tok ((⟨d,.makeMap ty none,ty0,pos,af,gd⟩:Oper),t,w,K)}:StepR P told draw tie ⟨d,.makeMap ty none,ty0,pos,af,gd⟩ t w K tk =
    Owes (draw && tie) (WLe w (w.push (.map #[] 0))) (K (putTmp t d (.map (some w.next))) (w.push (.map #[] 0))) .mk:=rfl
theorem step_mapUpdate {ty:TypeId} {m x y:Operand} {tk:Tok ((⟨d,.mapUpdate ty m x y,ty0,pos,af,gd⟩:Oper),t,w,K)}:StepR P told draw tie ⟨d,.mapUpdate ty m x y,ty0,pos,af,gd⟩ t w K tk =
    Then (updateV (prg P) w ty (ev t m) (ev t x) (ev t y)) (fun w'=>Owes (draw && tie) (WLe w w') (K (putTmp t d undef) w') .mk) .mk:=rfl
theorem step_lookup {ty:TypeId} {m x:Operand} {ok:Bool} {tk:Tok ((⟨d,.lookup ty m x ok,ty0,pos,af,gd⟩:Oper),t,w,K)}:StepR P told draw tie ⟨d,.lookup ty m x ok,ty0,pos,af,gd⟩ t w K tk =
    Then (fast (prg P) t w (.lookup ty m x ok)) (fun v=>Owes draw (same 12 v v=true) (K (putTmp t d v) w) .mk) .mk:=rfl
def msQ (g:Prg) (ty:TypeId) (l c:Value):Option (List Value × TypeId × (Nat->Value)) :=
 match g.ty ty,l,c with
 | some ⟨_,.slice e,_,_,_⟩,.int _ (.ofNat l),.int _ (.ofNat c) =>
  match g.ty e with
  | some ⟨_,_,size,bytes,zero⟩ =>
   match Nat.ble l c && Nat.ble c bound && Nat.ble bytes bound && Nat.ble size bound && Nat.beq zero.cells.size size with
   | true=>some (List.flatten (List.replicate c zero.cells.toList),e,fun b=>.slice (some ⟨b,0,none⟩) l c)
   | false=>none
  | none=>none
 | _,_,_=>none
def CallR (P:Program) (told:ToldF) (f:Value) (args:List Value) (w:AW) (K:Value->AW->Prop) (_:Tok (w,K)):Prop:=∃ fn first captured,f=.func fn first captured/\CallT P told (.fn fn captured) (first++args.toArray) w K
def CallV (P:Program) (told:ToldF) (fn:Fn) (cap:Array Value) (first:List Value) (args:List Value) (w:AW) (K:Value->AW->Prop) (_:Tok (w,K)):Prop:=CallT P told (.fn fn cap) (first++args).toArray w K
theorem CallR_func {fn:Fn} {first cap:Array Value} {args:List Value} {w:AW} {K:Value->AW->Prop} {x:Tok (w,K)}:CallR P told (.func fn first cap) args w K x=CallV P told fn cap first.toList args w K x:=by
 unfold CallR CallV
 have e:(first.toList++args).toArray=first++args.toArray:=by simp
 rw[e]
 apply propext
 constructor
 . rintro ⟨_,_,_,h,k⟩;injection h with h1 h2 h3;subst h1 h2 h3;exact k
 . intro k;exact⟨_,_,_,rfl,k⟩
theorem step_call {f:Operand} {args:List Operand} {tys:Array TypeId} {tk:Tok ((⟨d,.call ⟨.value f,⟨args⟩,tys⟩,ty0,pos,af,gd⟩:Oper),t,w,K)}:StepR P told draw tie ⟨d,.call ⟨.value f,⟨args⟩,tys⟩,ty0,pos,af,gd⟩ t w K tk =
    CallR P told (ev t f) (args.map (ev t)) w (fun v w'=>Owes (draw && tie) (WLe w w') (K (putTmp t d v) w') .mk) .mk:=by
 unfold CallR
 have e:(Array.mk args).map (ev t)=(args.map (ev t)).toArray:=by simp
 simp only[StepR,kind,EffR,e]
end
theorem callV_of {fn:Fn} {cap a:Array Value} {first args:List Value} {w:AW} {K R:Value->AW->Prop} {x:Tok (w,K)} (h:CallT P told (.fn fn cap) a w R) (e:(first++args).toArray=a) (k:∀ v w',R v w'->K v w'):CallV P told fn cap first args w K x:=by
 subst e;exact h.mono k
def Ret (v0:Value) (R:AW->Prop):Value->AW->Prop:=fun v w=>v=v0/\R w
theorem loopR {R:Tmps->List DI->AW->Post->Prop} {t:Tmps} {ds:List DI} {w:AW} {Q:Post} {x:Tok (R,t,ds,w,Q)} (I:Nat->Tmps->List DI->AW->Prop) (k:Nat) (h:I k t ds w)
    (step:∀ k t ds w,I k t ds w->R t ds w (loopQ I k Q)):LoopR R t ds w Q x:=⟨I,k,h,step⟩
theorem loopQ_exit {I:Nat->Tmps->List DI->AW->Prop} {k id:Nat} {Q:Post} {t:Tmps} {ds:List DI} {w:AW}:loopQ I k Q (.exit id) t ds w=Q (.exit id) t ds w:=rfl
theorem loopQ_ret {I:Nat->Tmps->List DI->AW->Prop} {k:Nat} {Q:Post} {t:Tmps} {ds:List DI} {w:AW}:loopQ I k Q .ret t ds w=Q .ret t ds w:=rfl
theorem Left_ret {rs:List ResultVar} {t:Tmps} {w:AW} {Q:Value->AW->Prop}:Left (P:=P) rs .ret t [] w Q=Then (aresults (prg P) true t w rs) (fun vs=>Q (tupled vs) w) .mk:=by
 simp[Left,adefers,Then]
theorem Left_normal {rs:List ResultVar} {t:Tmps} {w:AW} {Q:Value->AW->Prop}:Left (P:=P) rs .normal t [] w Q=Then (aresults (prg P) true t w rs) (fun vs=>Q (tupled vs) w) .mk:=by
 simp[Left,adefers,Then]
theorem res_nil {t:Tmps} {w:AW}:aresults (prg P) true t w []=some []:=rfl
theorem res_tmp {t:Tmps} {w:AW} {i:Tmp} {l:List ResultVar}:aresults (prg P) true t w (.tmp i :: l)=match aresults (prg P) true t w l with|some vs=>some (ev t (.tmp i) :: vs)|none=>none:=by
 simp only[aresults,aresult];cases aresults (prg P) true t w l <;> rfl
theorem res_cell {t:Tmps} {w:AW} {a:Tmp} {ty:TypeId} {l:List ResultVar}:aresults (prg P) true t w (.cell a ty :: l)=match (match (prg P).ty ty with|some i=>loadV w i.agg i.size (ev t (.tmp a))|none=>none),aresults (prg P) true t w l with|some v,some vs=>some (v :: vs)|_,_=>none:=by
 simp only[aresults,aresult,fast]
 cases (prg P).ty ty <;> rfl
theorem callT_open {f:FuncId} {captured args:Array Value} {w:AW} {Q:Value->AW->Prop} {fn:Func} {c:Code} {s:SC} (htold:told f (args++captured) w=none) (hf:P.funcs[f]? = some fn) (hlt:Nat.blt f 16777215=true) (hc:fn.body=some c) (hs:sOf c=s)
    (hn:Nat.ble (args++captured).size fn.ntmps=true)
    (h:CodeR P told { fn:=f,round:=none } s (fillFrom 0 (args++captured).toList .leaf) [] w (fun e t ds w'=>Left (P:=P) fn.results.toList e t ds w' Q) .mk):CallT P told (.fn (.func f) captured) args w Q:=by
 subst hs
 exact callT_enter htold hf hlt hc hn (codeR_codeT c h)
end Go.Sim
