/- The abstract machine, part 3: code, loops over functions, calls, panics and deferred calls; what it answers is what the program answers. -/
import Derived.Test.YtnbfkakjdifcpaaGreatMb
set_option linter.unusedVariables false
set_option linter.unusedSimpArgs false
namespace Go.Sim
open Go Go.RowKit
variable {P:Program} {N:Nat}
theorem draw_region (hP:Fit P) (hfol:P.follows .mixedOrders=true) {call:CallF} (hc:CallOk P N call) (hpn:PanOk P N call) {n:Nat} (hn:Trie.In n) {ops:Array Oper} (hf:ops.toList.all (fitsOp n)=true) (b:Frame) (k:List Item) (cs:List Frame) {id:Nat}
    {σ:Emb} {w:AW} {W:World} {t:Tmps} {a:Act} (h:WRel N σ w W) (ht:TRel σ n t a.tmps) {phases:List Phase} {before:Array Nat} (hplan:planOf ops=some ⟨phases,before⟩) {r:OR} (hnf:∀ y,r ≠ .fail y) (hq:aphases (prg P) call ops before phases 0 t [] w=r) :
    RegOut P N n ops b k cs σ w W t a.defers (lone (fat b a (.code (.region id ops true) :: k)) cs W) r:=by
 unfold planOf at hplan
 simp only at hplan
 split at hplan
 . cases hplan
 · rename_i hok
   simp only[Bool.and_eq_true]at hok
   injection hplan with hplan;injection hplan with e1 e2
   subst e1 e2
   have hp:=planOk_spec hok.1
   have hok2:=hok.2
   generalize (List.range (((List.range ops.size).filter (effectAt ops)).length+1)).map (phaseOf ops (Region.before ops) ((List.range ops.size).filter (effectAt ops)))=ps at hq hok2
   cases ps with
   | nil=>simp[phasesOk]at hok2
   | cons ph l =>
   have hW:WRel N σ w { W with drawn:=W.drawn+1 }:=h.congr rfl
   have lst0:∀ j,lst (Array.replicate ops.size false) j=false:=fun j=>by
    unfold lst;simp only[Array.getD_eq_getD_getElem?,Array.getElem?_replicate];split <;> rfl
   have hE:EInv w.next (prg P) ops [] [] w σ (lst (Array.replicate ops.size false)):=⟨Nat.le_refl _,by simp,by simp,by simp,by simp,by simp,by simp,by simp⟩
   obtain⟨evs',w',_,g2,g3,g4,g5⟩:=enterPhase (listed:=Array.replicate ops.size false) hp hn hf hnf hq hok2 (AInv.start n ops (Region.before ops) t) hE hW (fun j hj=>by rw[lst0]at hj;cases hj) (fun j hj=>by simp at hj)
   have key:=draw_sim hP hc hpn hn hp hf b k cs (σ0:=σ) (w0:=w) (W0:={ W with drawn:=W.drawn+1 }) hnf (ds:=a.defers) ops.size (W.tape W.drawn (.order b.fn id)) (Array.replicate ops.size false) evs' σ w' { W with drawn:=W.drawn+1 } a
    ⟨g2,fun j hj=>(by rw[lst0]at hj;cases hj),fun j hj=>(by rw[lst0]at hj;cases hj),fun e he hl=>(by rw[lst0]at hl;cases hl),fun x hx _=>ht.at_ x hx,ht.size,by simp⟩ g5 rfl
    ⟨.refl σ,.refl _ _,g3,fun j hj hn'=>⟨hn',g4 j hj⟩⟩ (by unfold open_;exact Nat.le_trans List.countP_le_length (by simp))
   have key:RegOut P N n ops b k cs σ w { W with drawn:=W.drawn+1 } t a.defers (lone (fat b a (.code (.region id ops true) :: k)) cs W) r:=by
    refine RegOut.steps (.one fat_region_draw) ?_
    simp only[Region.schedule,hfol,Bool.true_or,if_true]
    exact key
   cases r with
   | ok t1 w1=>obtain⟨σ',a',W',s1,s2,s3⟩:=key;exact⟨σ',a',W',s1,Ext.congr s2,s3⟩
   | pan v t1 w1=>obtain⟨σ',a',W',v',k',s1,s2,s3⟩:=key;exact⟨σ',a',W',v',k',s1,Ext.congr s2,s3⟩
   | fail y=>trivial
theorem wiped_ok {ops:Array Oper} {t:Tmps} {r:OR} {t1:Tmps} {w1:AW} (h:wiped ops t r=.ok t1 w1):r=.ok t1 w1:=by
 cases r <;> first|exact h|cases h
theorem wiped_pan {ops:Array Oper} {t:Tmps} {r:OR} {v:Value} {t1:Tmps} {w1:AW} (h:wiped ops t r=.pan v t1 w1):t1=wipe ops.toList t/\∃ t2,r=.pan v t2 w1:=by
 cases r <;> simp only[wiped,OR.pan.injEq,reduceCtorEq]at h
 obtain⟨rfl,rfl,rfl⟩:=h
 exact⟨rfl,_,rfl⟩
theorem region_sim (hP:Fit P) (hfol:P.follows .mixedOrders=true) {call:CallF} (hc:CallOk P N call) (hpn:PanOk P N call) {n:Nat} (hn:Trie.In n) {ops:Array Oper} (hf:ops.toList.all (fitsOp n)=true) (b:Frame) (k:List Item) (cs:List Frame) {id:Nat} {draw:Bool}
    {σ:Emb} {w:AW} {W:World} {t:Tmps} {a:Act} (h:WRel N σ w W) (ht:TRel σ n t a.tmps) {t1:Tmps} {w1:AW} (hq:aregion (prg P) call ops draw t w=.ok t1 w1) :
    ∃ σ' a' W',Steps P (lone (fat b a (.code (.region id ops draw) :: k)) cs W) (lone (fat b a' k) cs W')/\Ext N σ w W σ' w1 W'/\TRel σ' n t1 a'.tmps/\a'.defers=a.defers:=by
 unfold aregion at hq
 split at hq
 . obtain⟨σ',a',W',s1,s2,s3,s4⟩:=region_seq hP hc hn hf b k cs ops.toList 0 (by simp) σ w W t a h ht t1 w1 hq
   exact⟨σ',a',W',.head fat_region (by simpa using s1),s2,s3,s4⟩
 · split at hq
   . rename_i phases before hplan
     have hq:=wiped_ok hq
     have:=draw_region hP hfol hc hpn hn hf b k cs (id:=id) h ht hplan (r:=.ok t1 w1) (fun _ q=>by cases q) hq
     exact this
   . cases hq
theorem region_pan (hP:Fit P) (hfol:P.follows .mixedOrders=true) {call:CallF} (hc:CallOk P N call) (hpn:PanOk P N call) {n:Nat} (hn:Trie.In n) {ops:Array Oper} (hf:ops.toList.all (fitsOp n)=true) (b:Frame) (k:List Item) (cs:List Frame) {id:Nat} {draw:Bool}
    {σ:Emb} {w:AW} {W:World} {t:Tmps} {a:Act} (h:WRel N σ w W) (ht:TRel σ n t a.tmps) {v:Value} {t1:Tmps} {w1:AW} (hq:aregion (prg P) call ops draw t w=.pan v t1 w1) :
    ∃ σ' a' W' v' k',Steps P (lone (fat b a (.code (.region id ops draw) :: k)) cs W) (lone (boom b a' k' v') cs W')/\Ext N σ w W σ' w1 W'/\TRelW σ' n t1 a'.tmps/\a'.defers=a.defers/\VRel σ' v v':=by
 unfold aregion at hq
 split at hq
 . obtain⟨σ',a',W',v',k',s1,s2,s3,s4,s5⟩:=region_seq_pan hP hc hpn hn hf b k cs ops.toList 0 (by simp) σ w W t a h ht v t1 w1 hq
   exact⟨σ',a',W',v',k',.head fat_region (by simpa using s1),s2,s3.weak,s4,s5⟩
 · split at hq
   . rename_i phases before hplan
     obtain⟨rfl,t2,hq⟩:=wiped_pan hq
     exact draw_region hP hfol hc hpn hn hf b k cs (id:=id) h ht hplan (r:=.pan v t2 w1) (fun _ q=>by cases q) hq
   . cases hq
def Reach (P:Program) (m:Machine) (b:Frame) (k:List Item) (cs:List Frame):Ex->Act->World->Prop
 | .normal,a,w=>Steps P m (lone (fat b a k) cs w)
 | .exit id,a,w=>∃ k2,Steps P m (lone (fat b a (.code (.exit id) :: k2)) cs w)/\∀ i,i=id->exitTo i k2=exitTo i k
 | .ret,a,w=>∃ k2,Steps P m (lone (fat b a (.code .ret :: k2)) cs w)
 | .pan _,_,_=>False
theorem Reach.steps {m m1:Machine} {b:Frame} {k:List Item} {cs:List Frame} {e:Ex} {a:Act} {w:World} (h:Steps P m m1) (r:Reach P m1 b k cs e a w):Reach P m b k cs e a w:=by
 cases e with
 | normal=>exact h.trans r
 | exit id=>obtain⟨k2,s,q⟩:=r;exact⟨k2,h.trans s,q⟩
 | ret=>obtain⟨k2,s⟩:=r;exact⟨k2,h.trans s⟩
 | pan v=>exact r
theorem Reach.pass {m:Machine} {b:Frame} {x:Item} {k:List Item} {cs:List Frame} {e:Ex} {a:Act} {w:World} (hx:∀ id,exitTo id (x :: k)=exitTo id k) (he:e ≠ .normal) (r:Reach P m b (x :: k) cs e a w):Reach P m b k cs e a w:=by
 cases e with
 | normal=>exact absurd rfl he
 | exit id=>obtain⟨k2,s,q⟩:=r;exact⟨k2,s,fun i hi=>(q i hi).trans (hx i)⟩
 | ret=>exact r
 | pan v=>exact r
inductive DsRel (σ:Emb):List DI->List Deferred->Prop where
 | nil:DsRel σ [] []
 | cons {b:Nat} {x:Loc} {l:List DI} {m:List Deferred} (h:σ b=some x) (t:DsRel σ l m):DsRel σ (.mark b :: l) ({ target:=.collected x.c,args:=#[] } :: m)
 | call (f:FuncId) {args cap args' cap':Array Value} {l:List DI} {m:List Deferred} (ha:ARel σ args args') (hc:ARel σ cap cap') (t:DsRel σ l m):DsRel σ (.call f args cap :: l) ({ target:=.fn (.func f) cap',args:=args' } :: m)
theorem DsRel.mono {σ τ:Emb} (h:σ.le τ) {l:List DI} {m:List Deferred} (r:DsRel σ l m):DsRel τ l m:=by
 induction r with
 | nil=>exact .nil
 | cons e _ ih=>exact .cons (h _ _ e) ih
 | call f ha hc _ ih=>exact .call f (ha.mono h) (hc.mono h) ih
structure EnvOk (σ:Emb) (env:Env) (b:Frame):Prop where
 fn:b.fn=env.fn
 round:(env.round=none/\b.roundOf=none) \/ ∃ l x,env.round=some l/\σ l=some x/\b.roundOf=some x.c
theorem EnvOk.mono {σ τ:Emb} (h:σ.le τ) {env:Env} {b:Frame} (r:EnvOk σ env b):EnvOk τ env b :=
 ⟨r.fn,r.round.imp id fun ⟨l,x,a,c,d⟩=>⟨l,x,a,h _ _ c,d⟩⟩
section steps
variable {b:Frame} {a:Act} {k:List Item} {cs:List Frame} {W:World}
theorem fat_skip:step P (lone (fat b a (.code .skip :: k)) cs W)=.next (lone (fat b a k) cs W):=step_lone_go (by simp[stepG,stepG.exec,fat])
theorem fat_label {l:Nat}:step P (lone (fat b a (.code (.label l) :: k)) cs W)=.next (lone (fat b a k) cs W):=step_lone_go (by simp[stepG,stepG.exec,fat])
theorem fat_inBlock {id:Nat}:step P (lone (fat b a (.inBlock id :: k)) cs W)=.next (lone (fat b a k) cs W):=step_lone_go (by simp[stepG,stepG.exec,fat])
theorem fat_inScope {c:Code}:step P (lone (fat b a (.inScope c :: k)) cs W)=.next (lone (fat b a k) cs W):=step_lone_go (by simp[stepG,stepG.exec,fat])
theorem fat_seq {x y:Code}:step P (lone (fat b a (.code (.seq x y) :: k)) cs W)=.next (lone (fat b a (.code x :: .code y :: k)) cs W):=step_lone_go (by simp[stepG,stepG.exec,fat])
theorem fat_cond {c:Operand} {x y:Code} {t:Bool} (h:a.eval c=.bool t):step P (lone (fat b a (.code (.cond c x y) :: k)) cs W)=.next (lone (fat b a (.code (if t then x else y) :: k)) cs W) :=
 step_lone_go (by
  have:=congrFun (fat_eval b a (.code (.cond c x y) :: k)) c
  simp only[fat]at this
  simp[stepG,stepG.exec,fat,this,h])
theorem fat_block {id:Nat} {c:Code}:step P (lone (fat b a (.code (.block id c) :: k)) cs W)=.next (lone (fat b a (.code c :: .inBlock id :: k)) cs W):=step_lone_go (by simp[stepG,stepG.exec,fat])
theorem fat_scope {c:Code}:step P (lone (fat b a (.code (.scope c) :: k)) cs W)=.next (lone (fat b a (.code c :: .inScope c :: k)) cs W):=step_lone_go (by simp[stepG,stepG.exec,fat])
theorem fat_loop {c:Code}:step P (lone (fat b a (.code (.loop c) :: k)) cs W)=.next (lone (fat b a (.code c :: .inLoop c :: k)) cs W):=step_lone_go (by simp[stepG,stepG.exec,fat])
theorem fat_inLoop {c:Code}:step P (lone (fat b a (.inLoop c :: k)) cs W)=.next (lone (fat b a (.code c :: .inLoop c :: k)) cs W):=step_lone_go (by simp[stepG,stepG.exec,fat])
theorem fat_exit {id:Nat} {k':List Item} (h:exitTo id k=some k'):step P (lone (fat b a (.code (.exit id) :: k)) cs W)=.next (lone (fat b a k') cs W):=step_lone_go (by simp[stepG,stepG.exec,fat,h])
end steps
def LoopOk (P:Program) (N:Nat) (call:CallF):Prop :=
 ∀ (env:Env) (f:Operand) (params:Array Tmp) (assign body:Code) (t:Tmps) (ds:List DI) (w:AW) (e:Ex) (t1:Tmps) (ds1:List DI) (w1:AW),aloop call env f params assign body t ds w=.go e t1 ds1 w1->(∀ v,e ≠ .pan v) ->
  ∀ (n:Nat),Trie.In n->fitsCode n (.rangeFunc f params assign body)=true->∀ (σ:Emb) (W:World) (b:Frame) (a:Act) (k:List Item) (cs:List Frame),WRel N σ w W->TRel σ n t a.tmps->DsRel σ ds a.defers->EnvOk σ env b ->
   ∃ σ' a' W',Reach P (lone (fat b a (.code (.rangeFunc f params assign body) :: k)) cs W) b k cs e a' W'/\Ext N σ w W σ' w1 W'/\TRel σ' n t1 a'.tmps/\DsRel σ' ds1 a'.defers
def LoopPan (P:Program) (N:Nat) (call:CallF):Prop :=
 ∀ (env:Env) (f:Operand) (params:Array Tmp) (assign body:Code) (t:Tmps) (ds:List DI) (w:AW) (v:Value) (t1:Tmps) (ds1:List DI) (w1:AW),aloop call env f params assign body t ds w=.go (.pan v) t1 ds1 w1 ->
  ∀ (n:Nat),Trie.In n->fitsCode n (.rangeFunc f params assign body)=true->∀ (σ:Emb) (W:World) (b:Frame) (a:Act) (k:List Item) (cs:List Frame),WRel N σ w W->TRel σ n t a.tmps->DsRel σ ds a.defers->EnvOk σ env b ->
   ∃ σ' a' W' v' k',Steps P (lone (fat b a (.code (.rangeFunc f params assign body) :: k)) cs W) (lone (boom b a' k' v') cs W')/\Ext N σ w W σ' w1 W'/\TRelW σ' n t1 a'.tmps/\DsRel σ' ds1 a'.defers/\VRel σ' v v'
theorem op_defer {b:Frame} {a:Act} {k:List Item} {cs:List Frame} {ops:Array Oper} {W:World} {i:Nat} {rest:List Nat} {o:Oper} (ho:ops[i]? = some o) (hw:Region.wanted o (yielded ops a.tmps)=true) (hb:b.roundOf=none)
    {f:Operand} {args:Array Operand} {tys:Array TypeId} (hop:o.op=.defer ⟨.value f,args,tys⟩) {fn:Fn} {first captured:Array Value} (hf:a.eval f=.func fn first captured) :
    Steps P (lone (fat b a (.inRegion ops (i :: rest) :: k)) cs W)
     (lone (fat b (({ a with defers:={ target:=.fn fn captured,args:=first++args.map a.eval } :: a.defers }:Act).put o.dst undef) (.inRegion ops rest :: k)) cs W):=by
 refine .one (step_lone_go ?_)
 have hfin:=fat_finish b { a with defers:={ target:=.fn fn captured,args:=first++args.map a.eval } :: a.defers } ops i rest k undef
 rw[ho]at hfin
 simp only[Option.bind_some]at hfin
 rw[<- hfin]
 have he:=fat_eval b a (.inRegion ops (i :: rest) :: k)
 simp only[fat]at he
 rw[hb]at he
 simp[stepG,stepG.exec,stepG.oper,Frame.oper?,fat,ho,hw,he,hb,hop,execOp,resolve,Deferred.ofValue,hf,stepG.apply]
theorem adops_sim (hP:Fit P) {call:CallF} (hc:CallOk P N call) (hpn:PanOk P N call) {n:Nat} (hn:Trie.In n) {ops:Array Oper} (hf:ops.toList.all (fitsOp n)=true) (b:Frame) (k:List Item) (cs:List Frame) (env:Env) :
    ∀ (l:List Oper) (j:Nat),ops.toList.drop j=l->∀ (σ:Emb) (w:AW) (W:World) (t:Tmps) (a:Act) (ds:List DI),WRel N σ w W->TRel σ n t a.tmps->DsRel σ ds a.defers->EnvOk σ env b ->
     ∀ e t1 ds1 w1,adops (prg P) call env ops l t ds w=.go e t1 ds1 w1 ->
      (e=.normal/\∃ σ' a' W',Steps P (lone (fat b a (.inRegion ops ((List.range ops.size).drop j) :: k)) cs W) (lone (fat b a' k) cs W')/\Ext N σ w W σ' w1 W'/\TRel σ' n t1 a'.tmps/\DsRel σ' ds1 a'.defers) \/
      (∃ v,e=.pan v/\∃ σ' a' W' v' k',Steps P (lone (fat b a (.inRegion ops ((List.range ops.size).drop j) :: k)) cs W) (lone (boom b a' k' v') cs W')/\Ext N σ w W σ' w1 W'/\TRel σ' n t1 a'.tmps/\DsRel σ' ds1 a'.defers/\VRel σ' v v')
 | [],j,hj,σ,w,W,t,a,ds,h,ht,hds,henv,e,t1,ds1,w1,hq=>by
  simp only[adops,XR.go.injEq]at hq
  obtain⟨rfl,rfl,rfl,rfl⟩:=hq
  have hlen:ops.size≤j:=by
   have:=congrArg List.length hj
   simp at this;omega
  rw[List.drop_eq_nil_of_le (by simpa using hlen)]
  exact .inl ⟨rfl,σ,a,W,.one fat_region_end,.refl h,ht,hds⟩
 | o :: l, j,hj,σ,w,W,t,a,ds,h,ht,hds,henv,e,t1,ds1,w1,hq=>by
  have hlt:j < ops.size:=by
   rcases Nat.lt_or_ge j ops.size with q|q
   . exact q
   . rw[List.drop_eq_nil_of_le (by simpa using q)]at hj;cases hj
  have hcons:=List.drop_eq_getElem_cons (l:=ops.toList) (i:=j) (by simpa using hlt)
  rw[hj]at hcons
  injection hcons with ho hl
  have ho:ops[j]? = some o:=by rw[Array.getElem?_eq_getElem hlt];simp[ho]
  have hr:(List.range ops.size).drop j=j :: (List.range ops.size).drop (j+1):=by
   rw[List.drop_eq_getElem_cons (by simpa using hlt)];simp
  rw[hr]
  have hfo:=fitsOps_get hf ho
  have hop:∀ x ∈ o.op.operands.toList,VRel σ (ev t x) (a.eval x):=fun x hx=>ev_rel ht (List.all_eq_true.1 (fitsOp_ops hfo) x hx)
  have hwr:=wanted_rel (σ:=σ) (t:=t) (a:=a) (ops:=ops) (o:=o) (guard_ok ht hf)
  have go_on:∀ (σ':Emb) (w':AW) (W':World) (t':Tmps) (a':Act) (ds':List DI),Ext N σ w W σ' w' W'->TRel σ' n t' a'.tmps->DsRel σ' ds' a'.defers ->
      Steps P (lone (fat b a (.inRegion ops (j :: (List.range ops.size).drop (j+1)) :: k)) cs W) (lone (fat b a' (.inRegion ops ((List.range ops.size).drop (j+1)) :: k)) cs W')->adops (prg P) call env ops l t' ds' w'=.go e t1 ds1 w1 ->
      (e=.normal/\∃ σ' a' W',Steps P (lone (fat b a (.inRegion ops (j :: (List.range ops.size).drop (j+1)) :: k)) cs W) (lone (fat b a' k) cs W')/\Ext N σ w W σ' w1 W'/\TRel σ' n t1 a'.tmps/\DsRel σ' ds1 a'.defers) \/
      (∃ v,e=.pan v/\∃ σ' a' W' v' k',Steps P (lone (fat b a (.inRegion ops (j :: (List.range ops.size).drop (j+1)) :: k)) cs W) (lone (boom b a' k' v') cs W')/\Ext N σ w W σ' w1 W'/\TRel σ' n t1 a'.tmps/\DsRel σ' ds1 a'.defers/\VRel σ' v v'):=by
   intro σ' w' W' t' a' ds' hext ht' hds' hst hq'
   rcases adops_sim hP hc hpn hn hf b k cs env l (j+1) hl.symm σ' w' W' t' a' ds' hext.rel ht' hds' (henv.mono hext.le) e t1 ds1 w1 hq' with ⟨q,σ2,a2,W2,s1,s2,s3,s4⟩|⟨v,q,σ2,a2,W2,v2,k2,s1,s2,s3,s4,s5⟩
   . exact .inl ⟨q,σ2,a2,W2,hst.trans s1,hext.trans s2,s3,s4⟩
   . exact .inr ⟨v,q,σ2,a2,W2,v2,k2,hst.trans s1,hext.trans s2,s3,s4,s5⟩
  simp only[adops]at hq
  split at hq
  · rename_i hwa
    have hskip:((ops[j]?).map (Region.wanted · (yielded ops a.tmps))).getD false=false:=by
     rw[ho];simp only[Option.map_some,Option.getD_some];exact hwr.trans hwa
    obtain⟨p1,p2⟩:=putTmp_rel hn ht (fitsOp_dst hfo) (VRel.undef σ)
    refine go_on σ w W _ _ ds (.refl h) p1 (by rw[p2];exact hds) ?_ hq
    have:=fat_op_skip (P:=P) (W:=W) (b:=b) (a:=a) (k:=k) (cs:=cs) (rest:=(List.range ops.size).drop (j+1)) hskip
    rw[ho]at this
    exact .one this
  · rename_i hwa
    split at hq
    · -- a call is deferred
      rename_i f args tys hod
      split at hq
      · rename_i fn first captured henvr hfv
        have hfr:=hop f (by rw[hod];simp[Op.operands,Call.operands])
        rw[hfv]at hfr
        have hargs:ARel σ (args.map (ev t)) (args.map a.eval):=args_rel fun x hx=>hop x (by rw[hod];simp[Op.operands,Call.operands];exact .inr (by simpa using hx))
        have hrn:b.roundOf=none:=by
         rcases henv.round with ⟨_,q⟩|⟨l0,x0,q,_⟩
         . exact q
         . rw[henvr]at q;cases q
        generalize hfc:a.eval f=fv at hfr
        cases hfr with
        | func hfn hs1 hs2 hv1 hv2 =>
        rename_i g first' captured'
        cases hfn
        have st:=op_defer (P:=P) (W:=W) (k:=k) (cs:=cs) (rest:=(List.range ops.size).drop (j+1)) ho (hwr.trans hwa) hrn hod hfc
        obtain⟨p1,p2⟩:=putTmp_rel (a:={ a with defers:={ target:=.fn (.func fn) captured',args:=first'++args.map a.eval } :: a.defers }) hn ht (fitsOp_dst hfo) (VRel.undef σ)
        exact go_on σ w W _ _ _ (.refl h) p1 (by rw[p2];exact .call fn (ARel.append ⟨hs1,hv1⟩ hargs) ⟨hs2,hv2⟩ hds) st hq
      . cases hq
    . cases hq
    · rename_i hnd1 hnd2
      split at hq
      . rename_i t2 w2 hop2
        obtain⟨σ',v,v',W',e1,e2,e3,e4⟩:=aop_sim hP hc h hop ho (hwr.trans hwa) hop2 b k cs ((List.range ops.size).drop (j+1))
        subst e1
        obtain⟨p1,p2⟩:=putTmp_rel hn (ht.mono e3.le) (fitsOp_dst hfo) e2
        exact go_on σ' w2 W' _ _ ds e3 p1 (by rw[p2];exact hds.mono e3.le) e4 hq
      . rename_i v t2 w2 hop2
        simp only[XR.go.injEq]at hq
        obtain⟨rfl,rfl,rfl,rfl⟩:=hq
        obtain⟨e1,σ',v',W',e2,e3,e4⟩:=aop_pan hP hpn h hop ho (hwr.trans hwa) hop2 b k cs ((List.range ops.size).drop (j+1))
        subst e1
        exact .inr ⟨v,rfl,σ',a,W',v',_,e4,e2,ht.mono e2.le,hds.mono e2.le,e3⟩
      . cases hq
theorem code_sim (hP:Fit P) (hfol:P.follows .mixedOrders=true) {call:CallF} (hc:CallOk P N call) (hpn:PanOk P N call) (hl:LoopOk P N call) {n:Nat} (hn:Trie.In n) (env:Env) :
    ∀ (fuel:Nat) (c:Code) (t:Tmps) (ds:List DI) (w:AW) (e:Ex) (t1:Tmps) (ds1:List DI) (w1:AW),acode (prg P) call env fuel c t ds w=.go e t1 ds1 w1->(∀ v,e ≠ .pan v)->fitsCode n c=true ->
     ∀ (s:Item),(s=.code c \/ ∃ d,c=.loop d/\s=.inLoop d)->∀ (σ:Emb) (W:World) (b:Frame) (a:Act) (k:List Item) (cs:List Frame),WRel N σ w W->TRel σ n t a.tmps->DsRel σ ds a.defers->EnvOk σ env b ->
      ∃ σ' a' W',Reach P (lone (fat b a (s :: k)) cs W) b k cs e a' W'/\Ext N σ w W σ' w1 W'/\TRel σ' n t1 a'.tmps/\DsRel σ' ds1 a'.defers:=by
 intro fuel
 induction fuel with
 | zero=>intro c t ds w e t1 ds1 w1 h;cases h
 | succ fuel ih =>
  intro c t ds w e t1 ds1 w1 h hnp hf s hs σ W b a k cs hw ht hd henv
  have hs1:(∀ d,c ≠ .loop d)->s=.code c:=fun hne=>by
   rcases hs with rfl|⟨d,rfl,_⟩
   . rfl
   . exact absurd rfl (hne d)
  cases c with
  | skip =>
   rw[hs1 (fun d q=>by cases q)]
   simp only[acode,XR.go.injEq]at h
   obtain⟨rfl,rfl,rfl,rfl⟩:=h
   exact⟨σ,a,W,.one fat_skip,.refl hw,ht,hd⟩
  | label l =>
   rw[hs1 (fun d q=>by cases q)]
   simp only[acode,XR.go.injEq]at h
   obtain⟨rfl,rfl,rfl,rfl⟩:=h
   exact⟨σ,a,W,.one fat_label,.refl hw,ht,hd⟩
  | region id ops draw =>
   rw[hs1 (fun d q=>by cases q)]
   simp only[acode]at h
   split at h
   · split at h
     · rcases adops_sim hP hc hpn hn (by simpa [fitsCode] using hf) b k cs env ops.toList 0 (by simp) σ w W t a ds hw ht hd henv e t1 ds1 w1 h with ⟨q,σ',a',W',s1,s2,s3,s4⟩|⟨v,q,_⟩
       . subst q
         exact⟨σ',a',W',.head fat_region (by simpa using s1),s2,s3,s4⟩
       . exact absurd q (hnp v)
     . cases h
   split at h
   . rename_i t2 w2 hreg
     simp only[XR.go.injEq]at h
     obtain⟨rfl,rfl,rfl,rfl⟩:=h
     obtain⟨σ',a',W',s1,s2,s3,s4⟩:=region_sim hP hfol hc hpn hn (id:=id) (by simpa [fitsCode] using hf) b k cs hw ht hreg
     exact⟨σ',a',W',s1,s2,s3,by rw[s4];exact hd.mono s2.le⟩
   . simp only[XR.go.injEq]at h
     exact absurd h.1.symm (hnp _)
   . cases h
  | seq x y =>
   rw[hs1 (fun d q=>by cases q)]
   simp only[fitsCode,Bool.and_eq_true]at hf
   simp only[acode]at h
   split at h
   . rename_i t2 ds2 w2 hx
     obtain⟨σ',a',W',s1,s2,s3,s4⟩:=ih x t ds w _ _ _ _ hx (fun v q=>by cases q) hf.1 _ (.inl rfl) σ W b a (.code y :: k) cs hw ht hd henv
     obtain⟨σ2,a2,W2,r1,r2,r3,r4⟩:=ih y t2 ds2 w2 _ _ _ _ h hnp hf.2 _ (.inl rfl) σ' W' b a' k cs s2.rel s3 s4 (henv.mono s2.le)
     exact⟨σ2,a2,W2,Reach.steps (.head fat_seq s1) r1,s2.trans r2,r3,r4⟩
   . rename_i hx
     have hne:e ≠ .normal:=fun q=>by subst q;exact hx _ _ _ h
     obtain⟨σ',a',W',s1,s2,s3,s4⟩:=ih x t ds w _ _ _ _ h hnp hf.1 _ (.inl rfl) σ W b a (.code y :: k) cs hw ht hd henv
     exact⟨σ',a',W',Reach.steps (.one fat_seq) (Reach.pass (fun id=>rfl) hne s1),s2,s3,s4⟩
  | cond c x y =>
   rw[hs1 (fun d q=>by cases q)]
   simp only[fitsCode,Bool.and_eq_true]at hf
   simp only[acode]at h
   have hcv:=ev_rel ht hf.1.1
   split at h
   . rename_i hev
     rw[hev]at hcv
     generalize hcc:a.eval c=cv at hcv
     cases hcv
     obtain⟨σ',a',W',s1,s2,s3,s4⟩:=ih x t ds w _ _ _ _ h hnp hf.1.2 _ (.inl rfl) σ W b a k cs hw ht hd henv
     exact⟨σ',a',W',Reach.steps (.one (fat_cond hcc)) s1,s2,s3,s4⟩
   . rename_i hev
     rw[hev]at hcv
     generalize hcc:a.eval c=cv at hcv
     cases hcv
     obtain⟨σ',a',W',s1,s2,s3,s4⟩:=ih y t ds w _ _ _ _ h hnp hf.2 _ (.inl rfl) σ W b a k cs hw ht hd henv
     exact⟨σ',a',W',Reach.steps (.one (fat_cond hcc)) s1,s2,s3,s4⟩
   . cases h
  | block id x =>
   rw[hs1 (fun d q=>by cases q)]
   simp only[fitsCode]at hf
   simp only[acode]at h
   split at h
   · rename_i id' t2 ds2 w2 hx
     obtain⟨σ',a',W',⟨k2,s1,q⟩,s2,s3,s4⟩:=ih x t ds w _ _ _ _ hx (fun v q=>by cases q) hf _ (.inl rfl) σ W b a (.inBlock id :: k) cs hw ht hd henv
     have q:=q id' rfl
     split at h
     . rename_i hid
       have hid:=Nat.eq_of_beq_eq_true hid
       subst hid
       simp only[XR.go.injEq]at h
       obtain⟨rfl,rfl,rfl,rfl⟩:=h
       have:exitTo id' k2=some k:=by rw[q];simp[exitTo]
       exact⟨σ',a',W',Steps.head fat_block (s1.trans (.one (fat_exit this))),s2,s3,s4⟩
     . rename_i hid
       have hid:=Nat.ne_of_beq_eq_false hid
       simp only[XR.go.injEq]at h
       obtain⟨rfl,rfl,rfl,rfl⟩:=h
       refine⟨σ',a',W',⟨k2,.head fat_block s1,fun i hi=>?_⟩,s2,s3,s4⟩
       subst hi
       rw[q]
       have:(id == i)=false:=by simpa using fun e=>hid e.symm
       simp[exitTo,this]
   . rename_i hx
     obtain⟨σ',a',W',s1,s2,s3,s4⟩:=ih x t ds w _ _ _ _ h hnp hf _ (.inl rfl) σ W b a (.inBlock id :: k) cs hw ht hd henv
     refine⟨σ',a',W',?_,s2,s3,s4⟩
     cases e with
     | normal=>exact Steps.head fat_block (Steps.trans s1 (.one fat_inBlock))
     | exit id'=>exact absurd h (hx _ _ _ _)
     | ret=>obtain⟨k2,s1⟩:=s1;exact⟨k2,.head fat_block s1⟩
     | pan v=>exact absurd rfl (hnp v)
  | loop x =>
   simp only[fitsCode]at hf
   have hstep:step P (lone (fat b a (s :: k)) cs W)=.next (lone (fat b a (.code x :: .inLoop x :: k)) cs W):=by
    rcases hs with rfl|⟨d,hd',rfl⟩
    . exact fat_loop
    . injection hd' with hd';subst hd';exact fat_inLoop
   simp only[acode]at h
   split at h
   . rename_i t2 ds2 w2 hx
     obtain⟨σ',a',W',s1,s2,s3,s4⟩:=ih x t ds w _ _ _ _ hx (fun v q=>by cases q) hf _ (.inl rfl) σ W b a (.inLoop x :: k) cs hw ht hd henv
     obtain⟨σ2,a2,W2,r1,r2,r3,r4⟩:=ih (.loop x) t2 ds2 w2 _ _ _ _ h hnp (by simpa [fitsCode] using hf) (.inLoop x) (.inr ⟨x,rfl,rfl⟩) σ' W' b a' k cs s2.rel s3 s4 (henv.mono s2.le)
     exact⟨σ2,a2,W2,Reach.steps (.head hstep s1) r1,s2.trans r2,r3,r4⟩
   . rename_i hx
     have hne:e ≠ .normal:=fun q=>by subst q;exact hx _ _ _ h
     obtain⟨σ',a',W',s1,s2,s3,s4⟩:=ih x t ds w _ _ _ _ h hnp hf _ (.inl rfl) σ W b a (.inLoop x :: k) cs hw ht hd henv
     exact⟨σ',a',W',Reach.steps (.one hstep) (Reach.pass (fun id=>rfl) hne s1),s2,s3,s4⟩
  | rangeFunc f params assign body =>
   rw[hs1 (fun d q=>by cases q)]
   simp only[acode]at h
   exact hl env f params assign body t ds w e t1 ds1 w1 h hnp n hn hf σ W b a k cs hw ht hd henv
  | exit id =>
   rw[hs1 (fun d q=>by cases q)]
   simp only[acode,XR.go.injEq]at h
   obtain⟨rfl,rfl,rfl,rfl⟩:=h
   exact⟨σ,a,W,⟨k,.refl _ _,fun _ _=>rfl⟩,.refl hw,ht,hd⟩
  | scope x =>
   rw[hs1 (fun d q=>by cases q)]
   simp only[fitsCode]at hf
   simp only[acode]at h
   obtain⟨σ',a',W',s1,s2,s3,s4⟩:=ih x t ds w _ _ _ _ h hnp hf _ (.inl rfl) σ W b a (.inScope x :: k) cs hw ht hd henv
   refine⟨σ',a',W',?_,s2,s3,s4⟩
   cases e with
   | normal=>exact Steps.head fat_scope (Steps.trans s1 (.one fat_inScope))
   | exit id'=>exact Reach.steps (.one fat_scope) (Reach.pass (fun id=>rfl) (by simp) s1)
   | ret=>exact Reach.steps (.one fat_scope) (Reach.pass (fun id=>rfl) (by simp) s1)
   | pan v=>exact absurd rfl (hnp v)
  | goto l=>cases h
  | ret =>
   rw[hs1 (fun d q=>by cases q)]
   simp only[acode,XR.go.injEq]at h
   obtain⟨rfl,rfl,rfl,rfl⟩:=h
   exact⟨σ,a,W,⟨k,.refl _ _⟩,.refl hw,ht,hd⟩
  | refuse y=>cases h
theorem code_pan (hP:Fit P) (hfol:P.follows .mixedOrders=true) {call:CallF} (hc:CallOk P N call) (hpn:PanOk P N call) (hl:LoopOk P N call) (hlp:LoopPan P N call) {n:Nat} (hn:Trie.In n) (env:Env) :
    ∀ (fuel:Nat) (c:Code) (t:Tmps) (ds:List DI) (w:AW) (v:Value) (t1:Tmps) (ds1:List DI) (w1:AW),acode (prg P) call env fuel c t ds w=.go (.pan v) t1 ds1 w1->fitsCode n c=true ->
     ∀ (s:Item),(s=.code c \/ ∃ d,c=.loop d/\s=.inLoop d)->∀ (σ:Emb) (W:World) (b:Frame) (a:Act) (k:List Item) (cs:List Frame),WRel N σ w W->TRel σ n t a.tmps->DsRel σ ds a.defers->EnvOk σ env b ->
      ∃ σ' a' W' v' k',Steps P (lone (fat b a (s :: k)) cs W) (lone (boom b a' k' v') cs W')/\Ext N σ w W σ' w1 W'/\TRelW σ' n t1 a'.tmps/\DsRel σ' ds1 a'.defers/\VRel σ' v v':=by
 intro fuel
 induction fuel with
 | zero=>intro c t ds w v t1 ds1 w1 h;cases h
 | succ fuel ih =>
  intro c t ds w v t1 ds1 w1 h hf s hs σ W b a k cs hw ht hd henv
  have sim:=code_sim hP hfol hc hpn hl hn env fuel
  have hs1:(∀ d,c ≠ .loop d)->s=.code c:=fun hne=>by
   rcases hs with rfl|⟨d,rfl,_⟩
   . rfl
   . exact absurd rfl (hne d)
  cases c with
  | skip=>simp only[acode,XR.go.injEq,reduceCtorEq,false_and]at h
  | label l=>simp only[acode,XR.go.injEq,reduceCtorEq,false_and]at h
  | region id ops draw =>
   rw[hs1 (fun d q=>by cases q)]
   simp only[acode]at h
   split at h
   · split at h
     · rcases adops_sim hP hc hpn hn (by simpa [fitsCode] using hf) b k cs env ops.toList 0 (by simp) σ w W t a ds hw ht hd henv _ t1 ds1 w1 h with ⟨q,_⟩|⟨v0,q,σ',a',W',v',k',s1,s2,s3,s4,s5⟩
       . cases q
       . injection q with q;subst q
         exact⟨σ',a',W',v',k',.head fat_region (by simpa using s1),s2,s3.weak,s4,s5⟩
     . cases h
   split at h
   . simp only[XR.go.injEq,reduceCtorEq,false_and]at h
   . rename_i v2 t2 w2 hreg
     simp only[XR.go.injEq,Ex.pan.injEq]at h
     obtain⟨rfl,rfl,rfl,rfl⟩:=h
     obtain⟨σ',a',W',v',k',s1,s2,s3,s4,s5⟩:=region_pan hP hfol hc hpn hn (id:=id) (by simpa [fitsCode] using hf) b k cs hw ht hreg
     exact⟨σ',a',W',v',k',s1,s2,s3,by rw[s4];exact hd.mono s2.le,s5⟩
   . cases h
  | seq x y =>
   rw[hs1 (fun d q=>by cases q)]
   simp only[fitsCode,Bool.and_eq_true]at hf
   simp only[acode]at h
   split at h
   . rename_i t2 ds2 w2 hx
     obtain⟨σ',a',W',s1,s2,s3,s4⟩:=sim x t ds w _ _ _ _ hx (fun v q=>by cases q) hf.1 _ (.inl rfl) σ W b a (.code y :: k) cs hw ht hd henv
     obtain⟨σ2,a2,W2,v2,k2,r1,r2,r3,r4,r5⟩:=ih y t2 ds2 w2 _ _ _ _ h hf.2 _ (.inl rfl) σ' W' b a' k cs s2.rel s3 s4 (henv.mono s2.le)
     exact⟨σ2,a2,W2,v2,k2,.head fat_seq (Steps.trans s1 r1),s2.trans r2,r3,r4,r5⟩
   . obtain⟨σ',a',W',v',k',s1,s2,s3,s4,s5⟩:=ih x t ds w _ _ _ _ h hf.1 _ (.inl rfl) σ W b a (.code y :: k) cs hw ht hd henv
     exact⟨σ',a',W',v',k',.head fat_seq s1,s2,s3,s4,s5⟩
  | cond c x y =>
   rw[hs1 (fun d q=>by cases q)]
   simp only[fitsCode,Bool.and_eq_true]at hf
   simp only[acode]at h
   have hcv:=ev_rel ht hf.1.1
   split at h
   . rename_i hev
     rw[hev]at hcv
     generalize hcc:a.eval c=cv at hcv
     cases hcv
     obtain⟨σ',a',W',v',k',s1,s2⟩:=ih x t ds w _ _ _ _ h hf.1.2 _ (.inl rfl) σ W b a k cs hw ht hd henv
     exact⟨σ',a',W',v',k',.head (fat_cond hcc) s1,s2⟩
   . rename_i hev
     rw[hev]at hcv
     generalize hcc:a.eval c=cv at hcv
     cases hcv
     obtain⟨σ',a',W',v',k',s1,s2⟩:=ih y t ds w _ _ _ _ h hf.2 _ (.inl rfl) σ W b a k cs hw ht hd henv
     exact⟨σ',a',W',v',k',.head (fat_cond hcc) s1,s2⟩
   . cases h
  | block id x =>
   rw[hs1 (fun d q=>by cases q)]
   simp only[fitsCode]at hf
   simp only[acode]at h
   split at h
   . split at h <;> simp only[XR.go.injEq,reduceCtorEq,false_and]at h
   . obtain⟨σ',a',W',v',k',s1,s2⟩:=ih x t ds w _ _ _ _ h hf _ (.inl rfl) σ W b a (.inBlock id :: k) cs hw ht hd henv
     exact⟨σ',a',W',v',k',.head fat_block s1,s2⟩
  | loop x =>
   simp only[fitsCode]at hf
   have hstep:step P (lone (fat b a (s :: k)) cs W)=.next (lone (fat b a (.code x :: .inLoop x :: k)) cs W):=by
    rcases hs with rfl|⟨d,hd',rfl⟩
    . exact fat_loop
    . injection hd' with hd';subst hd';exact fat_inLoop
   simp only[acode]at h
   split at h
   . rename_i t2 ds2 w2 hx
     obtain⟨σ',a',W',s1,s2,s3,s4⟩:=sim x t ds w _ _ _ _ hx (fun v q=>by cases q) hf _ (.inl rfl) σ W b a (.inLoop x :: k) cs hw ht hd henv
     obtain⟨σ2,a2,W2,v2,k2,r1,r2,r3,r4,r5⟩:=ih (.loop x) t2 ds2 w2 _ _ _ _ h (by simpa [fitsCode] using hf) (.inLoop x) (.inr ⟨x,rfl,rfl⟩) σ' W' b a' k cs s2.rel s3 s4 (henv.mono s2.le)
     exact⟨σ2,a2,W2,v2,k2,.head hstep (Steps.trans s1 r1),s2.trans r2,r3,r4,r5⟩
   . obtain⟨σ',a',W',v',k',s1,s2⟩:=ih x t ds w _ _ _ _ h hf _ (.inl rfl) σ W b a (.inLoop x :: k) cs hw ht hd henv
     exact⟨σ',a',W',v',k',.head hstep s1,s2⟩
  | rangeFunc f params assign body =>
   rw[hs1 (fun d q=>by cases q)]
   simp only[acode]at h
   exact hlp env f params assign body t ds w v t1 ds1 w1 h n hn hf σ W b a k cs hw ht hd henv
  | exit id=>simp only[acode,XR.go.injEq,reduceCtorEq,false_and]at h
  | scope x =>
   rw[hs1 (fun d q=>by cases q)]
   simp only[fitsCode]at hf
   simp only[acode]at h
   obtain⟨σ',a',W',v',k',s1,s2⟩:=ih x t ds w _ _ _ _ h hf _ (.inl rfl) σ W b a (.inScope x :: k) cs hw ht hd henv
   exact⟨σ',a',W',v',k',.head fat_scope s1,s2⟩
  | goto l=>cases h
  | ret=>simp only[acode,XR.go.injEq,reduceCtorEq,false_and]at h
  | refuse y=>cases h
end Go.Sim

namespace Go.Sim
open Go Go.RowKit
variable {F:Nat}
variable {P:Program} {N:Nat}
theorem fat_range {b:Frame} {a:Act} {k:List Item} {cs:List Frame} {W W2 W3:World} {f:Operand} {params:Array Tmp} {assign body:Code} {l:Nat} {mark:List Deferred} {fn:Fn} {first captured:Array Value} {v:Value}
    (hr:(Instr.enterLoop b.fn a.tmps params assign body b.roundOf).run P W=.ok (l,mark) W2) (hf:a.eval f=.func fn first captured)
    (h:Delivers P (.fn fn captured) (first++#[.func (.yield l) #[] #[]]) W2 (fat b { a with defers:=mark++a.defers } (.inRangeFunc l :: k)) cs v W3) :
    Steps P (lone (fat b a (.code (.rangeFunc f params assign body) :: k)) cs W) (lone (fat b { a with defers:=mark++a.defers } (.endRangeFunc l :: k)) cs W3):=by
 have hfin:(fat b { a with defers:=mark++a.defers } (.inRangeFunc l :: k)).finish v=fat b { a with defers:=mark++a.defers } (.endRangeFunc l :: k):=rfl
 have he:=congrFun (fat_eval b { a with defers:=mark++a.defers } (.inRangeFunc l :: k)) f
 have he2:({ a with defers:=mark++a.defers }:Act).eval f=.func fn first captured:=by rw[<- hf];cases f <;> rfl
 rw[he2]at he
 have hc:∀ (u:Value),(fat b { a with defers:=mark++a.defers } (.inRangeFunc l :: k)).eval (.const u)=u:=fun u=>rfl
 unfold Delivers at h
 simp only[hfin]at h
 have hinv:((do let d <- resolve (fat b { a with defers:=mark++a.defers } (.inRangeFunc l :: k)).eval { callee:=.value f,args:=#[.const (.func (.yield l) #[] #[])],argTypes:=#[] } 0;invoke d.target d.args:Sem Next)).run P W2 =
     (invoke (.fn fn captured) (first++#[.func (.yield l) #[] #[]])).run P W2:=by
  simp[resolve,he,Deferred.ofValue,hc]
 simp only[fat]at hinv
 split at h
 . rename_i u W1 e
   obtain⟨rfl,rfl⟩:=h
   refine .one (step_lone_go ?_)
   rw[e]at hinv
   simp[stepG,stepG.exec,fat,hr,stepG.apply,hinv,Frame.finish]
 . rename_i g as W1 e
   refine .head (step_lone_go ?_) h
   rw[e]at hinv
   simp[stepG,stepG.exec,fat,hr,stepG.apply,hinv]
 . rename_i l2 g tmps asg body2 W1 e
   refine .head (step_lone_go ?_) h
   rw[e]at hinv
   simp[stepG,stepG.exec,fat,hr,stepG.apply,hinv]
 . exact h.elim
theorem fat_range_fails {b:Frame} {a:Act} {k:List Item} {cs:List Frame} {W W2 W3:World} {f:Operand} {params:Array Tmp} {assign body:Code} {l:Nat} {mark:List Deferred} {fn:Fn} {first captured:Array Value} {v:Value}
    (hr:(Instr.enterLoop b.fn a.tmps params assign body b.roundOf).run P W=.ok (l,mark) W2) (hf:a.eval f=.func fn first captured)
    (h:Fails P (.fn fn captured) (first++#[.func (.yield l) #[] #[]]) W2 (fat b { a with defers:=mark++a.defers } (.inRangeFunc l :: k)) cs v W3) :
    Steps P (lone (fat b a (.code (.rangeFunc f params assign body) :: k)) cs W) (lone (boom b { a with defers:=mark++a.defers } (.inRangeFunc l :: k) v) cs W3):=by
 have he:=congrFun (fat_eval b { a with defers:=mark++a.defers } (.inRangeFunc l :: k)) f
 have he2:({ a with defers:=mark++a.defers }:Act).eval f=.func fn first captured:=by rw[<- hf];cases f <;> rfl
 rw[he2]at he
 have hc:∀ (u:Value),(fat b { a with defers:=mark++a.defers } (.inRangeFunc l :: k)).eval (.const u)=u:=fun u=>rfl
 unfold Fails at h
 rw[fat_raise]at h
 have hinv:((do let d <- resolve (fat b { a with defers:=mark++a.defers } (.inRangeFunc l :: k)).eval { callee:=.value f,args:=#[.const (.func (.yield l) #[] #[])],argTypes:=#[] } 0;invoke d.target d.args:Sem Next)).run P W2 =
     (invoke (.fn fn captured) (first++#[.func (.yield l) #[] #[]])).run P W2:=by
  simp[resolve,he,Deferred.ofValue,hc]
 simp only[fat]at hinv
 split at h
 . rename_i g as W1 e
   refine .head (step_lone_go ?_) h
   rw[e]at hinv
   simp[stepG,stepG.exec,fat,hr,stepG.apply,hinv]
 . rename_i l2 g tmps asg body2 W1 e
   refine .head (step_lone_go ?_) h
   rw[e]at hinv
   simp[stepG,stepG.exec,fat,hr,stepG.apply,hinv]
 . exact h.elim
theorem getLoop_run {W:World} {l:Nat} {r:Loop} (h:W.heap[l]? = some (.loop r)):(Instr.getLoop l).run P W=.ok r W:=by
 simp[Instr.getLoop,getObj,Sem.run,h]
theorem setObj_run {W:World} {l:Nat} {r:Obj} (h:W.heap[l]? = some r) (hr:∀ c e f,r ≠ .cells c e f) (o:Obj):(setObj l o).run P W=.ok () { W with heap:=W.heap.setIfInBounds l o }:=by
 cases r <;> first|exact absurd rfl (hr _ _ _)|simp[setObj,Sem.run,h]
theorem fat_endRange {b:Frame} {a:Act} {k:List Item} {cs:List Frame} {W W':World} {l:Nat} {jump:Option Code} (hr:(Instr.endLoop l).run P W=.ok jump W') :
    step P (lone (fat b a (.endRangeFunc l :: k)) cs W)=.next (lone (fat b a ((jump.map Item.code).toList++k)) cs W') :=
 step_lone_go (by simp[stepG,stepG.exec,fat,hr])
theorem heap_lt {heap:Array Obj} {c:Nat} {o:Obj} (h:heap[c]? = some o):c < heap.size:=by
 rcases Nat.lt_or_ge c heap.size with q|q
 . exact q
 . rw[Array.getElem?_eq_none q]at h;cases h
theorem loop_ok {call:CallF} (hc:CallOk P N call):LoopOk P N call:=by
 intro env f params assign body t ds w e t1 ds1 w1 h hnp n hn hf σ W b a k cs hw ht hd henv
 simp only[fitsCode,Bool.and_eq_true]at hf
 unfold aloop at h
 split at h
 case h_1=>cases h
 rename_i hfull
 split at h
 case h_1=>cases h
 rename_i d ds2 w2 habout
 split at h
 case h_2=>cases h
 rename_i fn first captured hfv
 have hfr:=ev_rel ht hf.1.1.1
 rw[hfv]at hfr
 have begin_:∃ (σ2:Emb) (W2:World) (l:Loc) (mark:List Deferred),
     (Instr.enterLoop b.fn a.tmps params assign body b.roundOf).run P W=.ok (l.c,mark) W2 /\
     Ext N σ w W σ2 (w2.push (.loop { state:=.ready,pending:=none,fn:=env.fn,tmps:=t,params,assign,body,defers:=d })) W2/\σ2 w2.next=some l/\DsRel σ2 ds2 (mark++a.defers):=by
  have tail:∀ (σ1:Emb) (W1:World) (y:Loc),Ext N σ w W σ1 w2 W1->True->σ1 d=some y ->
      Ext N σ w W (σ1.with w2.next ⟨W1.heap.size,0,0,0⟩) (w2.push (.loop { state:=.ready,pending:=none,fn:=env.fn,tmps:=t,params,assign,body,defers:=d }))
       (W1.alloc (.loop { state:=.ready,pending:=none,fn:=b.fn,tmps:=a.tmps,params,assign,body,defers:=y.c })):=by
   intro σ1 W1 y he hnx hy
   have hle:=Emb.le_with he.rel.fresh (⟨W1.heap.size,0,0,0⟩:Loc)
   refine he.trans (he.rel.new hnx (.loop { state:=.ready,pending:=none,fn:=env.fn,tmps:=t,params,assign,body,defers:=d }) (fun _ _ _ _ _ q=>by cases q) _ ⟨W1.heap.size,0,0,0⟩ rfl ⟨{ state:=.ready,pending:=none,fn:=b.fn,tmps:=a.tmps,params,assign,body,defers:=y.c },by simp,?_⟩ (fun _ q=>by cases q))
   have hsz:a.tmps.size=n:=ht.size
   exact⟨rfl,rfl,henv.fn,rfl,rfl,rfl,by rw[hsz];exact hn,by rw[hsz];exact (ht.mono he.le).mono hle,⟨y,hle _ _ hy,rfl⟩,by rw[hsz];exact⟨hf.1.1.2,hf.1.2,hf.2⟩⟩
  rcases henv.round with ⟨r1,r2⟩|⟨l0,x0,r1,r2,r3⟩
  · rw [r1]at habout
    simp only[aboutLoop,Option.some.injEq,Prod.mk.injEq]at habout
    obtain⟨rfl,rfl,rfl⟩:=habout
    have e1:=hw.new trivial (.deferred (some [])) (fun _ _ _ _ _ q=>by cases q) (.deferred (some [])) ⟨W.heap.size,0,0,0⟩ rfl (by show (W.heap.push _)[W.heap.size]? = _;simp) (fun _ q=>by cases q)
    have hd1:(σ.with w.next ⟨W.heap.size,0,0,0⟩) w.next=some ⟨W.heap.size,0,0,0⟩:=Emb.with_self _ _ _
    have e2:=tail _ _ _ e1 trivial hd1
    refine⟨_,_,⟨(W.alloc (.deferred (some []))).heap.size,0,0,0⟩,[{ target:=.collected W.heap.size,args:=#[] }],?_,e2,Emb.with_self _ _ _,?_⟩
    . simp only[Instr.enterLoop,r2,Sem.run_bind,run_newObj,Result.andThen_ok,Sem.run_pure]
      rfl
    . have hle:=Emb.le_with e1.rel.fresh (⟨(W.alloc (.deferred (some []))).heap.size,0,0,0⟩:Loc)
      exact .cons (x:=⟨W.heap.size,0,0,0⟩) (hle _ _ hd1) (hd.mono e2.le)
  . rw[r1]at habout
    simp only[aboutLoop]at habout
    split at habout
    case h_2=>cases habout
    rename_i r hblk
    simp only[Option.some.injEq,Prod.mk.injEq]at habout
    obtain⟨rfl,rfl,rfl⟩:=habout
    obtain⟨_,kk,hkk,-,hbr⟩:=hw.dom _ _ r2
    rw[hblk]at hkk;injection hkk with hkk;subst hkk
    obtain⟨l',hheap,hl'⟩:=hbr
    obtain⟨y,hy1,hy2⟩:=hl'.defers
    have e2:=tail σ W y (.refl hw) trivial hy1
    refine⟨_,_,⟨W.heap.size,0,0,0⟩,[],?_,e2,Emb.with_self _ _ _,by simpa using hd.mono e2.le⟩
    simp only[Instr.enterLoop,r3,Sem.run_bind,getLoop_run hheap,run_newObj,Result.andThen_ok,Sem.run_pure,hy2]
    rfl
 obtain⟨σ2,W2,l,mark,hrun,hext,hl,hds⟩:=begin_
 unfold ofCall at h
 split at h
 case h_1=>cases h
 case h_2 =>
  simp only[XR.go.injEq]at h
  exact absurd h.1.symm (hnp _)
 rename_i v w3 hcall
 generalize hfc:a.eval f=fv at hfr
 cases hfr with
 | func hfn hs1 hs2 hv1 hv2 =>
  rename_i g first' captured'
  have hargs:ARel σ2 (first++#[.func (.yield w2.next) #[] #[]]) (first'++#[.func (.yield l.c) #[] #[]]) :=
   ARel.append (ARel.mono hext.le ⟨hs1,hv1⟩) (ARel.iff.2 (.cons (.func (.yield hl) rfl rfl (fun _=>by simpa using VRel.undef _) (fun _=>by simpa using VRel.undef _)) .nil))
  obtain⟨σ3,v',W3,hdel,hext3,_⟩:=hc _ _ _ _ _ hcall σ2 W2 (.fn g captured') (first'++#[.func (.yield l.c) #[] #[]]) (fat b { a with defers:=mark++a.defers } (.inRangeFunc l.c :: k)) cs hext.rel (.fn (hfn.mono hext.le) (ARel.mono hext.le ⟨hs2,hv2⟩)) hargs
  have steps1:=fat_range (k:=k) hrun hfc hdel
  have hl3:=hext3.le _ _ hl
  unfold endLoopA at h
  split at h
  case h_2=>cases h
  rename_i st pending f1 tt1 p1 a1 b1 d1 hblk3
  obtain⟨_,kk,hkk,-,hbr⟩:=hext3.rel.dom _ _ hl3
  rw[hblk3]at hkk;injection hkk with hkk;subst hkk
  obtain⟨l',hheap,hl'⟩:=hbr
  have hst:l'.state=st:=hl'.state
  have hpd:l'.pending=pending:=hl'.pending
  have last:st ≠ .busy->∃ W4,(Instr.endLoop l.c).run P W3=.ok pending W4/\Ext N σ3 w3 W3 σ3 (w3.put w2.next (.loop ⟨.exhausted,pending,f1,tt1,p1,a1,b1,d1⟩)) W4:=by
   intro hnb
   refine⟨{ W3 with heap:=W3.heap.setIfInBounds l.c (.loop { l' with state:=.exhausted }) },?_,?_⟩
   . have hb:(l'.state == .busy)=false:=by rw[hst];cases st <;> first|rfl|exact absurd rfl hnb
     simp only[Instr.endLoop,Sem.run_bind,getLoop_run hheap,Result.andThen_ok,hb,Bool.false_eq_true,if_false,Sem.run_pure,setObj_run hheap (fun _ _ _ q=>by cases q),hpd]
   . refine hext3.rel.putObj hl3 hblk3 rfl rfl _ ⟨{ l' with state:=.exhausted },by simp[heap_lt hheap],?_⟩
     exact⟨rfl,hl'.pending,hl'.fn,hl'.params,hl'.assign,hl'.body,hl'.small,hl'.tmps,hl'.defers,hl'.fits⟩
  have key:∀ (ee:Ex) (hnb:st ≠ .busy),e=ee->t1=t->ds1=ds2->w1=w3.put w2.next (.loop ⟨.exhausted,pending,f1,tt1,p1,a1,b1,d1⟩) ->
      (∀ (a':Act) (W':World),Steps P (lone (fat b a (.code (.rangeFunc f params assign body) :: k)) cs W) (lone (fat b a' ((pending.map Item.code).toList++k)) cs W')->Reach P (lone (fat b a (.code (.rangeFunc f params assign body) :: k)) cs W) b k cs ee a' W') ->
      ∃ σ' a' W',Reach P (lone (fat b a (.code (.rangeFunc f params assign body) :: k)) cs W) b k cs e a' W'/\Ext N σ w W σ' w1 W'/\TRel σ' n t1 a'.tmps/\DsRel σ' ds1 a'.defers:=by
   intro ee hnb q1 q2 q3 q4 hreach
   subst q1 q2 q3 q4
   obtain⟨W4,r1,r2⟩:=last hnb
   have hle:=hext.le.trans (hext3.le.trans r2.le)
   exact⟨σ3,{ a with defers:=mark++a.defers },W4,hreach _ _ (steps1.trans (.one (fat_endRange r1))),hext.trans (hext3.trans r2),ht.mono hle,hds.mono (hext3.le.trans r2.le)⟩
  split at h
  . cases h
  · rename_i hnb
    have hnb:st ≠ .busy:=fun q=>hnb q
    split at h
    . simp only[XR.go.injEq]at h
      obtain⟨q1,q2,q3,q4⟩:=h
      exact key .normal hnb q1.symm q2.symm q3.symm q4.symm (fun a' W' s=>(by simpa using s:Steps P _ (lone (fat b a' k) cs W')))
    . simp only[XR.go.injEq]at h
      obtain⟨q1,q2,q3,q4⟩:=h
      exact key .ret hnb q1.symm q2.symm q3.symm q4.symm (fun a' W' s=>⟨k,by simpa using s⟩)
    . rename_i id
      simp only[XR.go.injEq]at h
      obtain⟨q1,q2,q3,q4⟩:=h
      exact key (.exit id) hnb q1.symm q2.symm q3.symm q4.symm (fun a' W' s=>⟨k,by simpa using s,fun _ _=>rfl⟩)
    . cases h
theorem loop_pan {call:CallF} (hpn:PanOk P N call):LoopPan P N call:=by
 intro env f params assign body t ds w vp t1 ds1 w1 h n hn hf σ W b a k cs hw ht hd henv
 simp only[fitsCode,Bool.and_eq_true]at hf
 unfold aloop at h
 split at h
 case h_1=>cases h
 rename_i hfull
 split at h
 case h_1=>cases h
 rename_i d ds2 w2 habout
 split at h
 case h_2=>cases h
 rename_i fn first captured hfv
 have hfr:=ev_rel ht hf.1.1.1
 rw[hfv]at hfr
 have begin_:∃ (σ2:Emb) (W2:World) (l:Loc) (mark:List Deferred),
     (Instr.enterLoop b.fn a.tmps params assign body b.roundOf).run P W=.ok (l.c,mark) W2 /\
     Ext N σ w W σ2 (w2.push (.loop { state:=.ready,pending:=none,fn:=env.fn,tmps:=t,params,assign,body,defers:=d })) W2/\σ2 w2.next=some l/\DsRel σ2 ds2 (mark++a.defers):=by
  have tail:∀ (σ1:Emb) (W1:World) (y:Loc),Ext N σ w W σ1 w2 W1->True->σ1 d=some y ->
      Ext N σ w W (σ1.with w2.next ⟨W1.heap.size,0,0,0⟩) (w2.push (.loop { state:=.ready,pending:=none,fn:=env.fn,tmps:=t,params,assign,body,defers:=d }))
       (W1.alloc (.loop { state:=.ready,pending:=none,fn:=b.fn,tmps:=a.tmps,params,assign,body,defers:=y.c })):=by
   intro σ1 W1 y he hnx hy
   have hle:=Emb.le_with he.rel.fresh (⟨W1.heap.size,0,0,0⟩:Loc)
   refine he.trans (he.rel.new hnx (.loop { state:=.ready,pending:=none,fn:=env.fn,tmps:=t,params,assign,body,defers:=d }) (fun _ _ _ _ _ q=>by cases q) _ ⟨W1.heap.size,0,0,0⟩ rfl ⟨{ state:=.ready,pending:=none,fn:=b.fn,tmps:=a.tmps,params,assign,body,defers:=y.c },by simp,?_⟩ (fun _ q=>by cases q))
   have hsz:a.tmps.size=n:=ht.size
   exact⟨rfl,rfl,henv.fn,rfl,rfl,rfl,by rw[hsz];exact hn,by rw[hsz];exact (ht.mono he.le).mono hle,⟨y,hle _ _ hy,rfl⟩,by rw[hsz];exact⟨hf.1.1.2,hf.1.2,hf.2⟩⟩
  rcases henv.round with ⟨r1,r2⟩|⟨l0,x0,r1,r2,r3⟩
  · rw [r1]at habout
    simp only[aboutLoop,Option.some.injEq,Prod.mk.injEq]at habout
    obtain⟨rfl,rfl,rfl⟩:=habout
    have e1:=hw.new trivial (.deferred (some [])) (fun _ _ _ _ _ q=>by cases q) (.deferred (some [])) ⟨W.heap.size,0,0,0⟩ rfl (by show (W.heap.push _)[W.heap.size]? = _;simp) (fun _ q=>by cases q)
    have hd1:(σ.with w.next ⟨W.heap.size,0,0,0⟩) w.next=some ⟨W.heap.size,0,0,0⟩:=Emb.with_self _ _ _
    have e2:=tail _ _ _ e1 trivial hd1
    refine⟨_,_,⟨(W.alloc (.deferred (some []))).heap.size,0,0,0⟩,[{ target:=.collected W.heap.size,args:=#[] }],?_,e2,Emb.with_self _ _ _,?_⟩
    . simp only[Instr.enterLoop,r2,Sem.run_bind,run_newObj,Result.andThen_ok,Sem.run_pure]
      rfl
    . have hle:=Emb.le_with e1.rel.fresh (⟨(W.alloc (.deferred (some []))).heap.size,0,0,0⟩:Loc)
      exact .cons (x:=⟨W.heap.size,0,0,0⟩) (hle _ _ hd1) (hd.mono e2.le)
  . rw[r1]at habout
    simp only[aboutLoop]at habout
    split at habout
    case h_2=>cases habout
    rename_i r hblk
    simp only[Option.some.injEq,Prod.mk.injEq]at habout
    obtain⟨rfl,rfl,rfl⟩:=habout
    obtain⟨_,kk,hkk,-,hbr⟩:=hw.dom _ _ r2
    rw[hblk]at hkk;injection hkk with hkk;subst hkk
    obtain⟨l',hheap,hl'⟩:=hbr
    obtain⟨y,hy1,hy2⟩:=hl'.defers
    have e2:=tail σ W y (.refl hw) trivial hy1
    refine⟨_,_,⟨W.heap.size,0,0,0⟩,[],?_,e2,Emb.with_self _ _ _,by simpa using hd.mono e2.le⟩
    simp only[Instr.enterLoop,r3,Sem.run_bind,getLoop_run hheap,run_newObj,Result.andThen_ok,Sem.run_pure,hy2]
    rfl
 obtain⟨σ2,W2,l,mark,hrun,hext,hl,hds⟩:=begin_
 unfold ofCall at h
 split at h
 case h_1=>cases h
 case h_3 =>
  unfold endLoopA at h
  split at h
  . split at h
    . cases h
    . split at h <;> simp only[XR.go.injEq,reduceCtorEq,false_and]at h
  . cases h
 rename_i v w3 hcall
 simp only[XR.go.injEq,Ex.pan.injEq]at h
 obtain⟨rfl,rfl,rfl,rfl⟩:=h
 generalize hfc:a.eval f=fv at hfr
 cases hfr with
 | func hfn hs1 hs2 hv1 hv2 =>
  rename_i g first' captured'
  have hargs:ARel σ2 (first++#[.func (.yield w2.next) #[] #[]]) (first'++#[.func (.yield l.c) #[] #[]]) :=
   ARel.append (ARel.mono hext.le ⟨hs1,hv1⟩) (ARel.iff.2 (.cons (.func (.yield hl) rfl rfl (fun _=>by simpa using VRel.undef _) (fun _=>by simpa using VRel.undef _)) .nil))
  obtain⟨σ3,v',W3,hdel,hext3,hv3⟩:=hpn _ _ _ _ _ hcall σ2 W2 (.fn g captured') (first'++#[.func (.yield l.c) #[] #[]]) (fat b { a with defers:=mark++a.defers } (.inRangeFunc l.c :: k)) cs hext.rel (.fn (hfn.mono hext.le) (ARel.mono hext.le ⟨hs2,hv2⟩)) hargs
  exact⟨σ3,{ a with defers:=mark++a.defers },W3,v',_,fat_range_fails (k:=k) hrun hfc hdel,hext.trans hext3,(ht.mono (hext.le.trans hext3.le)).weak,hds.mono hext3.le,hv3⟩
theorem fat_beginRound {b:Frame} {a:Act} {k:List Item} {cs:List Frame} {W W':World} {l:Nat} (hb:b.roundOf=some l) (hr:(Instr.beginRound l).run P W=.ok () W') :
    step P (lone (fat b a (.beginRound :: k)) cs W)=.next (lone (fat b a k) cs W') :=
 step_lone_go (by simp[stepG,stepG.exec,fat,hb,stepG.apply,hr,Frame.finish])
theorem fat_leave {b:Frame} {a:Act} {c:Frame} {cs:List Frame} {W W':World} {l:Nat} {v:Value} (hb:b.roundOf=some l) (hk:b.kind=.normal) {jump:Option Code} {todo:List Item}
    (ht:(todo=[]/\jump=none) \/ (∃ k,todo=.code .ret :: k/\jump=some .ret) \/ ∃ id k,todo=.code (.exit id) :: k/\exitTo id k=none/\jump=some (.exit id))
    (hr:(Instr.endRound l jump).run P W=.ok v W'):step P (lone (fat b a todo) (c :: cs) W)=.next (lone (c.finish v) cs W'):=by
 refine step_lone_go ?_
 rcases ht with ⟨rfl,rfl⟩|⟨k,rfl,rfl⟩|⟨id,k,rfl,he,rfl⟩
 . simp[stepG,stepG.exec,fat,hb,hr,doReturn,hk]
 . simp[stepG,stepG.exec,fat,hb,hr,doReturn,hk]
 . simp[stepG,stepG.exec,fat,hb,hr,doReturn,hk,he]
theorem putAll_rel {σ:Emb} {n:Nat} (hn:Trie.In n):∀ {ps:List Tmp} {as as':List Value} {t:Tmps} {ts:Array Value},ps.all (Nat.blt · n)=true->LRel σ as as'->TRel σ n t ts ->
    TRel σ n (putAll t (ps.zip as)) ((ps.zip as').foldl (fun ts (p:Tmp × Value)=>ts.setIfInBounds p.1 p.2) ts)
 | [],_,_,t,ts,_,_,h=>by simpa [putAll] using h
 | p :: ps,[],[],t,ts,_,.nil,h=>by simpa [putAll] using h
 | p :: ps,v :: as,v' :: as',t,ts,hp,.cons hv hl,h=>by
  simp only[List.all_cons,Bool.and_eq_true]at hp
  simp only[List.zip_cons_cons,putAll,List.foldl_cons]
  refine putAll_rel hn hp.2 hl ?_
  have:=(putTmp_rel (a:=⟨ts,[]⟩) hn h (d:=some p) (by simpa using hp.1) hv).1
  exact this
theorem guardPan_ret {g:Prg} {f:FuncId} {r:CR} {v:Value} {w:AW} (h:guardPan g f r=.ret v w):r=.ret v w:=by
 cases r with
 | ret=>exact h
 | pan v w=>simp only[guardPan]at h;split at h <;> cases h
 | fail y=>cases h
theorem guardPan_pan {g:Prg} {f:FuncId} {r:CR} {v:Value} {w:AW} (h:guardPan g f r=.pan v w):r=.pan v w/\∃ fn,g.fn f=some fn:=by
 cases r with
 | ret=>cases h
 | pan v w =>
  simp only[guardPan]at h
  split at h
  . rename_i fn hfn;exact⟨h,fn,hfn⟩
  . cases h
 | fail y=>cases h
theorem around_ok (hP:Fit P) (hfol:P.follows .mixedOrders=true) {call:CallF} (hc:CallOk P N call) (hpn:PanOk P N call) {l:Nat} {args:Array Value} {w w1:AW} {v:Value} (h:around (prg P) F call l args w=.ret v w1)
    {σ:Emb} {W:World} {x:Loc} {args':Array Value} {cap:Array Value} (c:Frame) (cs:List Frame) (hw:WRel N σ w W) (hl:σ l=some x) (ha:ARel σ args args') :
    ∃ σ' v' W',Delivers P (.fn (.yield x.c) cap) args' W c cs v' W'/\Ext N σ w W σ' w1 W'/\VRel σ' v v':=by
 have hlo:=loop_ok hc
 unfold around at h
 split at h
 case h_2=>cases h
 rename_i st0 pe0 f t params assign bd0 df0 hblk
 split at h
 case h_1=>cases h
 rename_i hsize
 have hsize:=Nat.eq_of_beq_eq_true hsize
 have h:=guardPan_ret h
 obtain⟨_,kk,hkk,-,hbr⟩:=hw.dom _ _ hl
 rw[hblk]at hkk;injection hkk with hkk;subst hkk
 obtain⟨l',hheap,hl'⟩:=hbr
 have hfn:l'.fn=f:=hl'.fn
 have hpar:l'.params=params:=hl'.params
 have hasg:l'.assign=assign:=hl'.assign
 have hbod:l'.body=bd0:=hl'.body
 have hfits:=hl'.fits
 simp only at hfits
 generalize hn:l'.tmps.size=n at hfits
 have hnl:Trie.In n:=by rw[<- hn];exact hl'.small
 have htm:TRel σ n t l'.tmps:=by rw[<- hn];exact hl'.tmps
 have hinv:(invoke (.fn (.yield x.c) cap) args').run P W=.ok (.round x.c f ((params.zip args').foldl (fun tmps (p:Tmp × Value)=>tmps.setIfInBounds p.1 p.2) l'.tmps) assign l'.body) W:=by
  have hsz:args'.size=params.size:=by rw[<- ha.size];exact hsize
  simp[invoke,Instr.yield,getLoop_run hheap,hpar,hsz,hfn,hasg]
 have htmp:TRel σ n (putAll t (params.toList.zip args.toList)) ((params.zip args').foldl (fun tmps (p:Tmp × Value)=>tmps.setIfInBounds p.1 p.2) l'.tmps):=by
  have:=putAll_rel hnl hfits.1 (ARel.iff.1 ha) htm
  rw[<- Array.foldl_toList]
  simpa using this
 let b:Frame:={ (default:Frame)with fn:=f,kind:=.normal,roundOf:=some x.c }
 have henv:EnvOk σ { fn:=f,round:=some l } b:=⟨rfl,.inr ⟨l,x,rfl,hl,rfl⟩⟩
 unfold roundBody at h
 split at h
 case h_2=>cases h
 case h_3=>cases h
 rename_i t2 ds2 w2 hassign
 obtain⟨σ2,a2,W2,s1,s2,s3,s4⟩:=code_sim hP hfol hc hpn hlo hnl _ _ _ _ _ _ _ _ _ _ hassign (fun v q=>by cases q) hfits.2.1 _ (.inl rfl) σ W b ⟨_,[]⟩ [.beginRound,.code l'.body] (c :: cs) hw htmp .nil henv
 split at h
 case h_2=>cases h
 rename_i pe f1 t1 p1 a1 bd d1 hblk2
 have hl2:=s2.le _ _ hl
 obtain⟨_,kk,hkk,-,hbr⟩:=s2.rel.dom _ _ hl2
 rw[hblk2]at hkk;injection hkk with hkk;subst hkk
 obtain⟨l2,hheap2,hl2'⟩:=hbr
 have hbegin:(Instr.beginRound x.c).run P W2=.ok () { W2 with heap:=W2.heap.setIfInBounds x.c (.loop { l2 with state:=.busy }) }:=by
  have hst:l2.state=.ready:=hl2'.state
  simp only[Instr.beginRound,Sem.run_bind,getLoop_run hheap2,Result.andThen_ok,setObj_run hheap2 (fun _ _ _ q=>by cases q),hst]
  rfl
 have ext3:Ext N σ2 w2 W2 σ2 (w2.put l (.loop ⟨.busy,pe,f1,t1,p1,a1,bd,d1⟩)) { W2 with heap:=W2.heap.setIfInBounds x.c (.loop { l2 with state:=.busy }) }:=by
  refine s2.rel.putObj hl2 hblk2 rfl rfl _ ⟨{ l2 with state:=.busy },by simp[heap_lt hheap2],?_⟩
  exact⟨rfl,hl2'.pending,hl2'.fn,hl2'.params,hl2'.assign,hl2'.body,hl2'.small,hl2'.tmps,hl2'.defers,hl2'.fits⟩
 have steps1:=Steps.trans s1 (.one (fat_beginRound (k:=[.code l'.body]) (cs:=c :: cs) (by rfl:b.roundOf=some x.c) hbegin))
 have ending:∀ (jump:Option Code) (todo:List Item) (ds4:List DI) (w4:AW) (σ4:Emb) (a4:Act) (W4:World),adone l jump ds4 w4=.ret v w1->Ext N σ w W σ4 w4 W4 ->
     ((todo=[]/\jump=none) \/ (∃ k,todo=.code .ret :: k/\jump=some .ret) \/ ∃ id k,todo=.code (.exit id) :: k/\exitTo id k=none/\jump=some (.exit id)) ->
     Steps P (lone (fat b a2 [.code l'.body]) (c :: cs) { W2 with heap:=W2.heap.setIfInBounds x.c (.loop { l2 with state:=.busy }) }) (lone (fat b a4 todo) (c :: cs) W4) ->
     ∃ σ' v' W',Delivers P (.fn (.yield x.c) cap) args' W c cs v' W'/\Ext N σ w W σ' w1 W'/\VRel σ' v v':=by
  intro jump todo ds4 w4 σ4 a4 W4 hdone hext htodo hsteps
  unfold adone at hdone
  split at hdone
  case h_2=>cases hdone
  rename_i q0 q1 f5 t5 p5 a5 b5 d5 hblk5
  have hl5:=hext.le _ _ hl
  obtain⟨_,kk,hkk,-,hbr⟩:=hext.rel.dom _ _ hl5
  rw[hblk5]at hkk;injection hkk with hkk;subst hkk
  obtain⟨l5,hheap5,hl5'⟩:=hbr
  have hend:(Instr.endRound x.c jump).run P W4=.ok (.bool jump.isNone) { W4 with heap:=W4.heap.setIfInBounds x.c (.loop { l5 with state:=if jump.isNone then .ready else .done,pending:=jump }) }:=by
   simp only[Instr.endRound,Sem.run_bind,getLoop_run hheap5,Result.andThen_ok,setObj_run hheap5 (fun _ _ _ q=>by cases q),Sem.run_pure]
  have mk:∀ st,(if jump.isNone then LoopState.ready else LoopState.done)=st->Ext N σ4 w4 W4 σ4 (w4.put l (.loop ⟨st,jump,f5,t5,p5,a5,b5,d5⟩)) { W4 with heap:=W4.heap.setIfInBounds x.c (.loop { l5 with state:=if jump.isNone then .ready else .done,pending:=jump }) }:=by
   intro st hst
   refine hext.rel.putObj hl5 hblk5 rfl rfl _ ⟨{ l5 with state:=if jump.isNone then .ready else .done,pending:=jump },by simp[heap_lt hheap5],?_⟩
   exact⟨hst,rfl,hl5'.fn,hl5'.params,hl5'.assign,hl5'.body,hl5'.small,hl5'.tmps,hl5'.defers,hl5'.fits⟩
  have fin:=fat_leave (P:=P) (a:=a4) (c:=c) (cs:=cs) (by rfl:b.roundOf=some x.c) rfl htodo hend
  have del:Delivers P (.fn (.yield x.c) cap) args' W c cs (.bool jump.isNone) { W4 with heap:=W4.heap.setIfInBounds x.c (.loop { l5 with state:=if jump.isNone then .ready else .done,pending:=jump }) }:=by
   unfold Delivers
   rw[hinv]
   exact steps1.trans (hsteps.trans (.one fin))
  split at hdone
  . simp only[CR.ret.injEq]at hdone
    obtain⟨rfl,rfl⟩:=hdone
    exact⟨σ4,_,_,del,hext.trans (mk .ready rfl),.bool _⟩
  . simp only[CR.ret.injEq]at hdone
    obtain⟨rfl,rfl⟩:=hdone
    exact⟨σ4,_,_,del,hext.trans (mk .done rfl),.bool _⟩
 have ext03:=s2.trans ext3
 unfold doneWith at h
 split at h
 . cases h
 . rename_i t4 ds4 w4 hbody
   obtain⟨σ4,a4,W4,r1,r2,r3,r4⟩:=code_sim hP hfol hc hpn hlo hnl _ _ _ _ _ _ _ _ _ _ hbody (fun v q=>by cases q) hfits.2.2 _ (.inl rfl) σ2 _ b a2 [] (c :: cs) ext3.rel (s3.mono ext3.le) (s4.mono ext3.le) (henv.mono s2.le)
   exact ending none [] ds4 w4 σ4 a4 W4 h (ext03.trans r2) (.inl ⟨rfl,rfl⟩) (by rw[hbod];exact r1)
 . rename_i t4 ds4 w4 hbody
   obtain⟨σ4,a4,W4,⟨k2,r1⟩,r2,r3,r4⟩:=code_sim hP hfol hc hpn hlo hnl _ _ _ _ _ _ _ _ _ _ hbody (fun v q=>by cases q) hfits.2.2 _ (.inl rfl) σ2 _ b a2 [] (c :: cs) ext3.rel (s3.mono ext3.le) (s4.mono ext3.le) (henv.mono s2.le)
   exact ending (some .ret) _ ds4 w4 σ4 a4 W4 h (ext03.trans r2) (.inr (.inl ⟨k2,rfl,rfl⟩)) (by rw[hbod];exact r1)
 . rename_i id t4 ds4 w4 hbody
   obtain⟨σ4,a4,W4,⟨k2,r1,q⟩,r2,r3,r4⟩:=code_sim hP hfol hc hpn hlo hnl _ _ _ _ _ _ _ _ _ _ hbody (fun v q=>by cases q) hfits.2.2 _ (.inl rfl) σ2 _ b a2 [] (c :: cs) ext3.rel (s3.mono ext3.le) (s4.mono ext3.le) (henv.mono s2.le)
   exact ending (some (.exit id)) _ ds4 w4 σ4 a4 W4 h (ext03.trans r2) (.inr (.inr ⟨id,k2,rfl,by rw[q id rfl];rfl,rfl⟩)) (by rw[hbod];exact r1)
 . split at h <;> cases h
theorem around_pan (hP:Fit P) (hfol:P.follows .mixedOrders=true) {call:CallF} (hc:CallOk P N call) (hpn:PanOk P N call) {l:Nat} {args:Array Value} {w w1:AW} {v:Value} (h:around (prg P) F call l args w=.pan v w1)
    {σ:Emb} {W:World} {x:Loc} {args':Array Value} {cap:Array Value} (c:Frame) (cs:List Frame) (hw:WRel N σ w W) (hl:σ l=some x) (ha:ARel σ args args') :
    ∃ σ' v' W',Fails P (.fn (.yield x.c) cap) args' W c cs v' W'/\Ext N σ w W σ' w1 W'/\VRel σ' v v':=by
 have hlo:=loop_ok hc
 unfold around at h
 split at h
 case h_2=>cases h
 rename_i st0 pe0 f t params assign bd0 df0 hblk
 split at h
 case h_1=>cases h
 rename_i hsize
 have hsize:=Nat.eq_of_beq_eq_true hsize
 obtain⟨h,fnc,hfnc⟩:=guardPan_pan h
 obtain⟨_,kk,hkk,-,hbr⟩:=hw.dom _ _ hl
 rw[hblk]at hkk;injection hkk with hkk;subst hkk
 obtain⟨l',hheap,hl'⟩:=hbr
 have hfn:l'.fn=f:=hl'.fn
 have hpar:l'.params=params:=hl'.params
 have hasg:l'.assign=assign:=hl'.assign
 have hbod:l'.body=bd0:=hl'.body
 have hfits:=hl'.fits
 simp only at hfits
 generalize hn:l'.tmps.size=n at hfits
 have hnl:Trie.In n:=by rw[<- hn];exact hl'.small
 have htm:TRel σ n t l'.tmps:=by rw[<- hn];exact hl'.tmps
 have hinv:(invoke (.fn (.yield x.c) cap) args').run P W=.ok (.round x.c f ((params.zip args').foldl (fun tmps (p:Tmp × Value)=>tmps.setIfInBounds p.1 p.2) l'.tmps) assign l'.body) W:=by
  have hsz:args'.size=params.size:=by rw[<- ha.size];exact hsize
  simp[invoke,Instr.yield,getLoop_run hheap,hpar,hsz,hfn,hasg]
 have htmp:TRel σ n (putAll t (params.toList.zip args.toList)) ((params.zip args').foldl (fun tmps (p:Tmp × Value)=>tmps.setIfInBounds p.1 p.2) l'.tmps):=by
  have:=putAll_rel hnl hfits.1 (ARel.iff.1 ha) htm
  rw[<- Array.foldl_toList]
  simpa using this
 let b:Frame:={ (default:Frame)with fn:=f,kind:=.normal,roundOf:=some x.c }
 have henv:EnvOk σ { fn:=f,round:=some l } b:=⟨rfl,.inr ⟨l,x,rfl,hl,rfl⟩⟩
 unfold roundBody at h
 split at h
 case h_2=>cases h
 case h_3=>cases h
 rename_i t2 ds2 w2 hassign
 obtain⟨σ2,a2,W2,s1,s2,s3,s4⟩:=code_sim hP hfol hc hpn hlo hnl _ _ _ _ _ _ _ _ _ _ hassign (fun v q=>by cases q) hfits.2.1 _ (.inl rfl) σ W b ⟨_,[]⟩ [.beginRound,.code l'.body] (c :: cs) hw htmp .nil henv
 split at h
 case h_2=>cases h
 rename_i pe f1 t1 p1 a1 bd d1 hblk2
 have hl2:=s2.le _ _ hl
 obtain⟨_,kk,hkk,-,hbr⟩:=s2.rel.dom _ _ hl2
 rw[hblk2]at hkk;injection hkk with hkk;subst hkk
 obtain⟨l2,hheap2,hl2'⟩:=hbr
 have hbegin:(Instr.beginRound x.c).run P W2=.ok () { W2 with heap:=W2.heap.setIfInBounds x.c (.loop { l2 with state:=.busy }) }:=by
  have hst:l2.state=.ready:=hl2'.state
  simp only[Instr.beginRound,Sem.run_bind,getLoop_run hheap2,Result.andThen_ok,setObj_run hheap2 (fun _ _ _ q=>by cases q),hst]
  rfl
 have ext3:Ext N σ2 w2 W2 σ2 (w2.put l (.loop ⟨.busy,pe,f1,t1,p1,a1,bd,d1⟩)) { W2 with heap:=W2.heap.setIfInBounds x.c (.loop { l2 with state:=.busy }) }:=by
  refine s2.rel.putObj hl2 hblk2 rfl rfl _ ⟨{ l2 with state:=.busy },by simp[heap_lt hheap2],?_⟩
  exact⟨rfl,hl2'.pending,hl2'.fn,hl2'.params,hl2'.assign,hl2'.body,hl2'.small,hl2'.tmps,hl2'.defers,hl2'.fits⟩
 have steps1:=Steps.trans s1 (.one (fat_beginRound (k:=[.code l'.body]) (cs:=c :: cs) (by rfl:b.roundOf=some x.c) hbegin))
 have ext03:=s2.trans ext3
 have hlp:=loop_pan (P:=P) hpn
 unfold doneWith at h
 split at h
 . cases h
 . unfold adone at h;split at h
   . split at h <;> cases h
   . cases h
 . unfold adone at h;split at h
   . split at h <;> cases h
   . cases h
 . unfold adone at h;split at h
   . split at h <;> cases h
   . cases h
 . rename_i v4 t4 ds4 w4 hbody
   split at h
   case h_2=>cases h
   simp only[CR.pan.injEq]at h
   obtain⟨rfl,rfl⟩:=h
   obtain⟨σ4,a4,W4,v',k',r1,r2,r3,r4,r5⟩:=code_pan hP hfol hc hpn hlo hlp hnl _ _ _ _ _ _ _ _ _ _ hbody hfits.2.2 _ (.inl rfl) σ2 _ b a2 [] (c :: cs) ext3.rel (s3.mono ext3.le) (s4.mono ext3.le) (henv.mono s2.le)
   refine⟨σ4,v',W4,?_,ext03.trans r2,r5⟩
   unfold Fails
   rw[hinv]
   have hds0:∀ m,DsRel σ4 [] m->m=[]:=fun m q=>by cases q;rfl
   have hds:a4.defers=[]:=hds0 _ r4
   refine steps1.trans (Steps.trans (by rw[hbod];exact r1) (.one ?_))
   exact step_leave_panicked (fr:=boom b a4 k' v') ⟨rfl,hds,fnc,fn_spec hP.funcs hfnc⟩
end Go.Sim

namespace Go.Sim
open Go Go.RowKit
variable {F:Nat}
variable {P:Program} {N:Nat}
theorem fat_end {b:Frame} {a:Act} {cs:List Frame} {W:World} (hb:b.roundOf=none):step P (lone (fat b a []) cs W)=.next (lone { fat b a []with mode:=.returning } cs W) :=
 step_lone_go (by simp[stepG,stepG.exec,fat,hb])
theorem fat_ret {b:Frame} {a:Act} {k:List Item} {cs:List Frame} {W:World} (hb:b.roundOf=none):step P (lone (fat b a (.code .ret :: k)) cs W)=.next (lone { fat b a (.code .ret :: k)with mode:=.returning } cs W) :=
 step_lone_go (by simp[stepG,stepG.exec,fat,hb])
def ModeRel (σ:Emb):Option Value->FrameMode->Prop
 | none,m=>m=.returning
 | some v,m=>∃ v',m=.panicking [{ v:=v',recovered:=false }]/\VRel σ v v'
theorem ModeRel.mono {σ τ:Emb} (h:σ.le τ) {p:Option Value} {m:FrameMode} (r:ModeRel σ p m):ModeRel τ p m:=by
 cases p with
 | none=>exact r
 | some v=>obtain⟨v',e,q⟩:=r;exact⟨v',e,q.mono h⟩
theorem ModeRel.notRun {σ:Emb} {p:Option Value} {m:FrameMode} (r:ModeRel σ p m):m=.returning \/ ∃ ch,m=.panicking ch:=by
 cases p with
 | none=>exact .inl r
 | some v=>obtain⟨v',e,q⟩:=r;exact .inr ⟨_,e⟩
theorem unwind_mark {fr:Frame} {cs:List Frame} {W:World} {c:Nat} {ds:List Deferred} (hm:fr.mode=.returning \/ ∃ ch,fr.mode=.panicking ch) (hd:fr.defers = { target:=.collected c,args:=#[] } :: ds) (h:W.heap[c]? = some (.deferred (some []))) :
    step P (lone fr cs W)=.next (lone { fr with defers:=ds } cs { W with heap:=W.heap.setIfInBounds c (.deferred none) }):=by
 have hr:(Instr.takeDeferred c).run P W=.ok [] { W with heap:=W.heap.setIfInBounds c (.deferred none) }:=by
  simp[Instr.takeDeferred,getObj,setObj,Sem.run,h]
 rcases hm with hm|⟨ch,hm⟩
 . exact step_lone_go (by simp[stepG,unwind,hm,hd,hr])
 . exact step_lone_go (by simp[stepG,unwind,hm,hd,hr])
theorem unwind_call {fr:Frame} {cs:List Frame} {W:World} {f:FuncId} {cap as:Array Value} {ds:List Deferred} (hm:fr.mode=.returning \/ ∃ ch,fr.mode=.panicking ch) (hd:fr.defers = { target:=.fn (.func f) cap,args:=as } :: ds)
    (h:(invoke (.fn (.func f) cap) as).run P W=.ok (.enter f (as++cap)) W) :
    step P (lone fr cs W)=.next (lone (Frame.enter P f (as++cap) .deferred) ({ fr with defers:=ds } :: cs) W):=by
 rcases hm with hm|⟨ch,hm⟩
 . exact step_lone_go (by simp[stepG,unwind,callDeferred,hm,hd,h])
 . exact step_lone_go (by simp[stepG,unwind,callDeferred,hm,hd,h])
def after (c:Frame):Frame :=
 match c.mode with
 | .panicking [{ recovered:=true,.. }]=>{ c with mode:=.returning }
 | _=>c
theorem deferred_done {fr c:Frame} {cs:List Frame} {W:World} {fn:Func} {v:Value} (hm:fr.mode=.returning) (hd:fr.defers=[]) (hk:fr.kind=.deferred) (hf:P.funcs[fr.fn]? = some fn) (hr:(results fn fr.tmps).run P W=.ok v W)
    (hc:c.mode=.returning \/ ∃ u r,c.mode=.panicking [{ v:=u,recovered:=r }]):step P (lone fr (c :: cs) W)=.next (lone (after c) cs W):=by
 rcases hc with hc|⟨u,r,hc⟩
 . exact step_lone_go (by simp[stepG,unwind,doReturn,hm,hd,hk,hf,hr,hc,after])
 . cases r
   . exact step_lone_go (by simp[stepG,unwind,doReturn,hm,hd,hk,hf,hr,hc,after])
   . exact step_lone_go (by simp[stepG,unwind,doReturn,hm,hd,hk,hf,hr,hc,after])
def DRunOk (P:Program) (N:Nat) (run:DRunF):Prop :=
 ∀ (f:FuncId) (args:Array Value) (pan:Option Value) (w:AW) (r:Bool) (w1:AW),run f args pan w=some (r,w1) ->
  ∀ (σ:Emb) (W:World) (as cap:Array Value) (fr:Frame) (ds:List Deferred) (cs:List Frame),WRel N σ w W->ModeRel σ pan fr.mode->ARel σ args (as++cap)->fr.defers = { target:=.fn (.func f) cap,args:=as } :: ds ->
   ∃ σ' W' m,Steps P (lone fr cs W) (lone { fr with defers:=ds,mode:=m } cs W')/\ModeRel σ' (match r with|true=>none|false=>pan) m/\Ext N σ w W σ' w1 W'
theorem DRunOk.none:DRunOk P N (fun _ _ _ _=>none):=fun _ _ _ _ _ _ h=>by cases h
theorem unwind_sim {run:DRunF} (hrun:DRunOk P N run) {cs:List Frame}:∀ {ds:List DI} {pan pan1:Option Value} {w w1:AW},adefers run pan ds w=some (pan1,w1)->∀ {σ:Emb} {W:World} {fr:Frame},WRel N σ w W->ModeRel σ pan fr.mode->DsRel σ ds fr.defers ->
    ∃ σ' W' m,Steps P (lone fr cs W) (lone { fr with defers:=[],mode:=m } cs W')/\ModeRel σ' pan1 m/\Ext N σ w W σ' w1 W'
 | [],pan,pan1,w,w1,h,σ,W,fr,hw,hm,hd=>by
  simp only[adefers,Option.some.injEq,Prod.mk.injEq]at h
  obtain⟨rfl,rfl⟩:=h
  have:fr.defers=[]:=by generalize fr.defers=dd at hd;cases hd;rfl
  refine⟨σ,W,fr.mode,?_,hm,.refl hw⟩
  have e:{ fr with defers:=[],mode:=fr.mode } = fr:=by cases fr;simp_all
  rw[e];exact .refl _ _
 | .mark b :: ds,pan,pan1,w,w1,h,σ,W,fr,hw,hm,hd=>by
  simp only[adefers]at h
  split at h
  case h_2=>cases h
  rename_i hblk
  generalize hdd:fr.defers=dd at hd
  cases hd with
  | cons hb ht =>
   rename_i x m
   obtain⟨_,kk,hkk,-,hbr⟩:=hw.dom _ _ hb
   rw[hblk]at hkk;injection hkk with hkk;subst hkk
   have hheap:W.heap[x.c]? = some (.deferred (some [])):=hbr
   have ext:=hw.putObj hb hblk rfl rfl (k':=.deferred none) (.deferred none) (by show (W.heap.setIfInBounds x.c _)[x.c]? = _;simp[heap_lt hheap])
   obtain⟨σ',W',mm,s1,s2,s3⟩:=unwind_sim hrun (cs:=cs) h (fr:={ fr with defers:=m }) ext.rel hm ht
   exact⟨σ',W',mm,.head (unwind_mark hm.notRun hdd hheap) s1,s2,ext.trans s3⟩
 | .call f args cap :: ds,pan,pan1,w,w1,h,σ,W,fr,hw,hm,hd=>by
  simp only[adefers]at h
  generalize hdd:fr.defers=dd at hd
  cases hd with
  | call _ ha hc ht =>
   rename_i args' cap' m
   have tail:∀ (r:Bool) (w2:AW),run f (args++cap) pan w=some (r,w2)->adefers run (match r with|true=>none|false=>pan) ds w2=some (pan1,w1) ->
       ∃ σ' W' m,Steps P (lone fr cs W) (lone { fr with defers:=[],mode:=m } cs W')/\ModeRel σ' pan1 m/\Ext N σ w W σ' w1 W':=by
    intro r w2 hr hrest
    obtain⟨σ2,W2,m2,s1,s2,s3⟩:=hrun _ _ _ _ _ _ hr σ W args' cap' fr m cs hw hm (ARel.append ha hc) hdd
    obtain⟨σ3,W3,m3,t1,t2,t3⟩:=unwind_sim hrun (cs:=cs) hrest (fr:={ fr with defers:=m,mode:=m2 }) s3.rel s2 (ht.mono s3.le)
    exact⟨σ3,W3,m3,s1.trans t1,t2,s3.trans t3⟩
   split at h
   . rename_i w2 hr;exact tail true w2 hr h
   . rename_i w2 hr;exact tail false w2 hr h
   . cases h
def resOf (tmps:Array Value):ResultVar->Sem Value
 | .tmp t=>pure (tmps.getD t Go.undef)
 | .cell a t=>do loadVar t (<- asAddr (tmps.getD a Go.undef))
theorem results_eq (fn:Func) (tmps:Array Value):results fn tmps=(do
    let vs <- fn.results.mapM (resOf tmps)
    pure (if h:vs.size=1 then vs[0] else .tuple vs)):=by
 unfold results
 congr
def TSure (σ:Emb) (n:Nat) (t:Tmps) (ts:Array Value):Bool->Prop
 | true=>TRel σ n t ts
 | false=>TRelW σ n t ts
theorem TSure.mono {σ τ:Emb} (h:σ.le τ) {n:Nat} {t:Tmps} {ts:Array Value}:∀ {sure:Bool},TSure σ n t ts sure->TSure τ n t ts sure
 | true,r=>TRel.mono h r
 | false,r=>TRelW.mono h r
theorem TSure.weak {σ:Emb} {n:Nat} {t:Tmps} {ts:Array Value}:∀ {sure:Bool},TSure σ n t ts sure->TRelW σ n t ts
 | true,r=>TRel.weak r
 | false,r=>r
theorem results_sim (hP:Fit P) {n:Nat} {σ:Emb} {w:AW} {W:World} {t:Tmps} {a:Act} {sure:Bool} (hw:WRel N σ w W) (ht:TSure σ n t a.tmps sure):∀ {rs:List ResultVar} {vs:List Value},
    rs.all (fun|.tmp i=>Nat.blt i n|.cell a _=>Nat.blt a n)=true->aresults (prg P) sure t w rs=some vs ->
     ∃ vs',(rs.mapM (resOf a.tmps)).run P W=.ok vs' W/\LRel σ vs vs'
 | [],vs,_,h=>by
  simp only[aresults,Option.some.injEq]at h
  subst h
  exact⟨[],rfl,.nil⟩
 | r :: rs, vs, hf,h=>by
  simp only[List.all_cons,Bool.and_eq_true]at hf
  simp only[aresults]at h
  split at h
  case h_2=>cases h
  rename_i v vs2 hr hrs
  injection h with h;subst h
  obtain⟨vs',e1,e2⟩:=results_sim hP hw ht hf.2 hrs
  have one : ∃ v',(resOf a.tmps r).run P W=.ok v' W/\VRel σ v v':=by
   cases r with
   | tmp i =>
    cases sure with
    | false =>
     simp only[aresult]at hr
     have hk:t.get i=some v/\v ≠ Go.undef:=by
      generalize t.get i=o at hr
      unfold knownV at hr
      split at hr
      . cases hr
      . rename_i q
        refine⟨hr,?_⟩
        rintro rfl
        exact q _ hr
     rcases (TSure.weak ht).at_ i v (Nat.blt_eq.mp hf.1) hk.1 with q|q
     . exact absurd q hk.2
     . exact⟨_,rfl,q⟩
    | true =>
    simp only[aresult,Option.some.injEq]at hr
    subst hr
    exact⟨_,rfl,TRel.at_ ht i (Nat.blt_eq.mp hf.1)⟩
   | cell x ty =>
    simp only[aresult,fast]at hr
    split at hr
    · rename_i agg d m bb z hi
      have hx:VRel σ (ev t (.tmp x)) (a.tmps.getD x Go.undef):=by
       have hweak:=ht.weak.at_ x
       unfold loadV at hr
       split at hr
       · rename_i b o hev
         simp only[ev]at hev ⊢
         split at hev
         . rename_i u hu
           rcases hweak u (Nat.blt_eq.mp hf.1) hu with q|q
           . rw[q]at hev;cases hev
           . simpa only[hu] using q
         . cases hev
       . cases hr
      obtain⟨v',e3,e4⟩:=q_load hP hw hi hx hr
      refine⟨v',?_,e4⟩
      rw[<- e3]
      unfold loadV at hr
      split at hr
      . rename_i b o hev
        rw[hev]at hx
        unfold resOf
        simp only
        generalize a.tmps.getD x Go.undef=u at hx ⊢
        cases hx
        simp[Instr.loadAt,Instr.sureAddr,asAddr]
      . cases hr
    . cases hr
  obtain⟨v',o1,o2⟩:=one
  refine⟨v' :: vs',?_,.cons o2 e2⟩
  simp only[List.mapM_cons,Sem.run_bind,o1,Result.andThen_ok]
  rw[e1]
  simp
theorem tupled_sim (hP:Fit P) {n:Nat} {σ:Emb} {w:AW} {W:World} {t:Tmps} {a:Act} {sure:Bool} (hw:WRel N σ w W) (ht:TSure σ n t a.tmps sure) {fn:Func} {vs:List Value}
    (hf:fn.results.toList.all (fun|.tmp i=>Nat.blt i n|.cell a _=>Nat.blt a n)=true) (h:aresults (prg P) sure t w fn.results.toList=some vs) :
    ∃ v',(results fn a.tmps).run P W=.ok v' W/\VRel σ (tupled vs) v':=by
 obtain⟨vs',e1,e2⟩:=results_sim hP hw ht hf h
 have run:(results fn a.tmps).run P W=.ok (if h:vs'.toArray.size=1 then vs'.toArray[0] else .tuple vs'.toArray) W:=by
  rw[results_eq]
  simp only[Array.mapM_eq_mapM_toList,Sem.run_bind,Sem.run_map,e1,Result.andThen_ok,Sem.run_pure]
 refine⟨_,run,?_⟩
 cases e2 with
 | nil=>exact .tuple_of (ARel.iff.2 .nil)
 | cons hv hl =>
  cases hl with
  | nil=>simpa [tupled] using hv
  | cons hv2 hl2 =>
   simp only[tupled]
   rw[dif_neg (by simp)]
   exact .tuple_of (ARel.iff.2 (.cons hv (.cons hv2 hl2)))
def born (f:FuncId) (kind:CallKind):Frame:={ (default:Frame)with fn:=f,kind:=kind,roundOf:=none }
theorem enter_fat (kind:CallKind) {f:FuncId} {fn:Func} {body:Code} (hfn:P.funcs[f]? = some fn) (hbody:fn.body=some body) (args':Array Value) :
    Frame.enter P f args' kind=fat (born f kind) ⟨args'++Array.replicate (fn.ntmps - args'.size) Go.undef,[]⟩ [.code body]:=by
 simp[Frame.enter,fat,hfn,hbody,born]
theorem enter_tmps {σ:Emb} {n:Nat} {args args':Array Value} (ha:ARel σ args args') (hsz:args.size≤n):TRel σ n (fillFrom 0 args.toList .leaf) (args'++Array.replicate (n - args'.size) Go.undef):=by
 have hsz':args'.size≤n:=by rw[<- ha.size];exact hsz
 refine⟨by simp;omega,fun i hi=>?_⟩
 simp only[ev]
 rw[Trie.fillFrom_get _ _ _ _ (Trie.in_ _) (Trie.in_ _),Trie.get_leaf]
 have g:=(ARel.iff.1 ha).get i
 by_cases q:i < args.size
 · have q':i < args'.size:=by rw[<- ha.size];exact q
   rw[if_pos (by simpa using q)]
   simp only[Nat.sub_zero]
   have e1:args.toList[i]? = some args[i]:=by simp[q]
   have e2:args'.toList[i]? = some args'[i]:=by simp[q']
   simp only[List.getD_eq_getElem?_getD,e1,e2,Option.getD_some]at g
   rw[e1]
   have e3:(args'++Array.replicate (n - args'.size) Go.undef).getD i Go.undef=args'[i]:=by
    simp only[Array.getD_eq_getD_getElem?,Array.getElem?_append,q',if_true,Array.getElem?_eq_getElem,Option.getD_some]
   rw[e3];exact g
 · have q':¬ i < args'.size:=by rw[<- ha.size];exact q
   rw[if_neg (by simp;omega)]
   have e3:(args'++Array.replicate (n - args'.size) Go.undef).getD i Go.undef=Go.undef:=by
    simp only[Array.getD_eq_getD_getElem?,Array.getElem?_append,q',if_false,Array.getElem?_replicate]
    split <;> rfl
   rw[e3];exact VRel.undef σ
theorem op_recover {b:Frame} {a:Act} {k:List Item} {cs:List Frame} {fr:Frame} {ops:Array Oper} {W:World} {rest:List Nat} {o:Oper} (ho:ops[0]? = some o) (hw:Region.wanted o (yielded ops a.tmps)=true) (hb:b.roundOf=none) (hk:b.kind=.deferred)
    {args:Array Operand} {tys:Array TypeId} (hop:o.op=.call ⟨.builtin .recover,args,tys⟩) (hm:fr.mode=.returning \/ ∃ u,fr.mode=.panicking [{ v:=u,recovered:=false }]) :
    Steps P (lone (fat b a (.inRegion ops (0 :: rest) :: k)) (fr :: cs) W)
     (lone (fat b (a.put o.dst (match fr.mode with|.panicking [{ v:=u,.. }]=>u|_=>.nilIface)) (.inRegion ops rest :: k))
       ({ fr with mode:=match fr.mode with|.panicking [{ v:=u,.. }]=>.panicking [{ v:=u,recovered:=true }]|m=>m } :: cs) W):=by
 refine .one (step_lone_go ?_)
 have hd:∀ c,o.op ≠ .defer c:=fun c q=>by rw[hop]at q;cases q
 have hg:=fat_op (P:=P) (b:=b) (k:=k) (cs:=fr :: cs) (W:=W) (rest:=rest) ho hw hd
 rw[hg]
 have hr:(execOp a.eval o).run P W=.ok .recover W:=by simp[execOp,hop,resolve,invoke,builtin]
 have hfin:=fun u=>fat_finish b a ops 0 rest k u
 simp only[ho,Option.bind_some]at hfin
 rcases hm with hm|⟨u,hm⟩
 . rw[hm,<- hfin]
   have e:{ fr with mode:=.returning } = fr:=by cases fr;simp_all
   simp[stepG.apply,hr,fat,hb,tryRecover,hk,hm,e]
 . rw[hm,<- hfin]
   simp[stepG.apply,hr,fat,hb,tryRecover,hk,hm]
def Caught (σ:Emb) (pan p:Option Value) (fr fr':Frame):Prop :=
 (p=pan/\fr'=fr) \/ (p=none/\∃ v v',pan=some v/\fr.mode=.panicking [{ v:=v',recovered:=false }]/\fr' = { fr with mode:=.panicking [{ v:=v',recovered:=true }] })
theorem adcode_sim (hP : Fit P) (hfol:P.follows .mixedOrders=true) {call:CallF} (hc:CallOk P N call) (hpn:PanOk P N call) {n:Nat} (hn:Trie.In n) (env:Env) (henvr:env.round=none) {pan:Option Value} :
    ∀ (c:Code) (t:Tmps) (w:AW) (p:Option Value) (e:Ex) (t1:Tmps) (ds1:List DI) (w1:AW),adcode (prg P) call env F pan c t w=(p,.go e t1 ds1 w1)->(∀ v,e ≠ .pan v)->fitsCode n c=true ->
     ∀ (σ:Emb) (W:World) (b:Frame) (a:Act) (k:List Item) (fr:Frame) (cs:List Frame),WRel N σ w W->TRel σ n t a.tmps->a.defers=[]->EnvOk σ env b->b.kind=.deferred->ModeRel σ pan fr.mode ->
      ∃ σ' a' W' fr',Reach P (lone (fat b a (.code c :: k)) (fr :: cs) W) b k (fr' :: cs) e a' W'/\Ext N σ w W σ' w1 W'/\TRel σ' n t1 a'.tmps/\DsRel σ' ds1 a'.defers/\Caught σ' pan p fr fr':=by
 have hlo:=loop_ok hc
 have plain:∀ (c:Code) (t:Tmps) (w:AW) (p:Option Value) (e:Ex) (t1:Tmps) (ds1:List DI) (w1:AW),(pan,acode (prg P) call env F c t [] w)=(p,.go e t1 ds1 w1)->(∀ v,e ≠ .pan v)->fitsCode n c=true ->
     ∀ (σ:Emb) (W:World) (b:Frame) (a:Act) (k:List Item) (fr:Frame) (cs:List Frame),WRel N σ w W->TRel σ n t a.tmps->a.defers=[]->EnvOk σ env b->b.kind=.deferred->ModeRel σ pan fr.mode ->
      ∃ σ' a' W' fr',Reach P (lone (fat b a (.code c :: k)) (fr :: cs) W) b k (fr' :: cs) e a' W'/\Ext N σ w W σ' w1 W'/\TRel σ' n t1 a'.tmps/\DsRel σ' ds1 a'.defers/\Caught σ' pan p fr fr':=by
  intro c t w p e t1 ds1 w1 h hnp hf σ W b a k fr cs hw ht hd henv hk hm
  simp only[Prod.mk.injEq]at h
  obtain⟨rfl,h⟩:=h
  obtain⟨σ',a',W',s1,s2,s3,s4⟩:=code_sim hP hfol hc hpn hlo hn env F c t [] w e t1 ds1 w1 h hnp hf _ (.inl rfl) σ W b a k (fr :: cs) hw ht (by rw[hd];exact .nil) henv
  exact⟨σ',a',W',fr,s1,s2,s3,s4,.inl ⟨rfl,rfl⟩⟩
 intro c
 induction c with
 | seq x y ihx _ =>
  intro t w p e t1 ds1 w1 h hnp hf σ W b a k fr cs hw ht hd henv hk hm
  simp only[fitsCode,Bool.and_eq_true]at hf
  simp only[adcode]at h
  split at h
  . rename_i p2 t2 ds2 w2 hx
    simp only[Prod.mk.injEq]at h
    obtain⟨rfl,h⟩:=h
    obtain⟨σ',a',W',fr',s1,s2,s3,s4,s5⟩:=ihx t w _ _ _ _ _ hx (fun v q=>by cases q) hf.1 σ W b a (.code y :: k) fr cs hw ht hd henv hk hm
    obtain⟨σ2,a2,W2,r1,r2,r3,r4⟩:=code_sim hP hfol hc hpn hlo hn env F y t2 ds2 w2 e t1 ds1 w1 h hnp hf.2 _ (.inl rfl) σ' W' b a' k (fr' :: cs) s2.rel s3 s4 (henv.mono s2.le)
    exact⟨σ2,a2,W2,fr',Reach.steps (.head fat_seq s1) r1,s2.trans r2,r3,r4,s5⟩
  . rename_i hx
    have hne:e ≠ .normal:=fun q=>by subst q;exact hx _ _ _ _ h
    obtain⟨σ',a',W',fr',s1,s2,s3,s4,s5⟩:=ihx t w _ _ _ _ _ h hnp hf.1 σ W b a (.code y :: k) fr cs hw ht hd henv hk hm
    exact⟨σ',a',W',fr',Reach.steps (.one fat_seq) (Reach.pass (fun id=>rfl) hne s1),s2,s3,s4,s5⟩
 | region id ops draw =>
  intro t w p e t1 ds1 w1 h hnp hf σ W b a k fr cs hw ht hd henv hk hm
  cases draw with
  | true=>exact plain _ t w p e t1 ds1 w1 h hnp hf σ W b a k fr cs hw ht hd henv hk hm
  | false =>
  simp only[adcode]at h
  split at h
  · rename_i dst args tys ty pos af l hops
    simp only[Prod.mk.injEq]at h
    obtain⟨rfl,h⟩:=h
    have hf':ops.toList.all (fitsOp n)=true:=by simpa [fitsCode] using hf
    have ho:ops[0]? = some ⟨dst,.call ⟨.builtin .recover,args,tys⟩,ty,pos,af,none⟩:=by
     rw[<- Array.getElem?_toList,hops];rfl
    have hlen : 0 < ops.size := by rcases Nat.eq_zero_or_pos ops.size with q|q
                                   . have:=Array.eq_empty_of_size_eq_zero q;subst this;simp at hops
                                   . exact q
    have hr:List.range ops.size=0 :: (List.range ops.size).drop 1:=by
     have:=List.drop_eq_getElem_cons (l:=List.range ops.size) (i:=0) (by simpa using hlen)
     simpa using this
    have hrn:b.roundOf=none:=by
     rcases henv.round with ⟨_,q⟩|⟨l0,x0,q,_⟩
     . exact q
     . rw[henvr]at q;cases q
    have hm2:fr.mode=.returning \/ ∃ u,fr.mode=.panicking [{ v:=u,recovered:=false }]:=by
     cases pan with
     | none=>exact .inl hm
     | some v=>obtain⟨v',q,_⟩:=hm;exact .inr ⟨v',q⟩
    have st:=op_recover (P:=P) (W:=W) (k:=k) (cs:=cs) (a:=a) (rest:=(List.range ops.size).drop 1) ho (by simp[Region.wanted]) hrn hk rfl hm2
    have hfo:=fitsOps_get hf' ho
    have hval:VRel σ (pan.getD .nilIface) (match fr.mode with|.panicking [{ v:=u,.. }]=>u|_=>.nilIface):=by
     cases pan with
     | none=>have hm:fr.mode=.returning:=hm;rw[hm];exact .nilIface
     | some v=>obtain⟨v',q,q2⟩:=hm;rw[q];exact q2
    obtain⟨p1,p2⟩:=putTmp_rel hn ht (fitsOp_dst hfo) hval
    have hcaught:Caught σ pan none fr { fr with mode:=match fr.mode with|.panicking [{ v:=u,.. }]=>.panicking [{ v:=u,recovered:=true }]|m=>m }:=by
     cases pan with
     | none =>
      have hm:fr.mode=.returning:=hm
      refine .inl ⟨rfl,?_⟩
      cases fr;simp_all
     | some v =>
      obtain⟨v',q,q2⟩:=hm
      exact .inr ⟨rfl,v,v',rfl,q,by rw[q]⟩
    split at h
    . rename_i t2 w2 hq
      simp only[XR.go.injEq]at h
      obtain⟨rfl,rfl,rfl,rfl⟩:=h
      obtain⟨σ',a',W',s1,s2,s3,s4⟩:=region_seq hP hc hn hf' b k _ l 1 (by rw[hops];rfl) σ w W _ _ hw p1 _ _ hq
      refine⟨σ',a',W',_,Steps.head fat_region (Steps.trans (by rw[hr];exact st) s1),s2,s3,by rw[s4,p2,hd];exact .nil,?_⟩
      exact hcaught
    . simp only[XR.go.injEq]at h
      exact absurd h.1.symm (hnp _)
    . cases h
  . exact plain _ t w p e t1 ds1 w1 h hnp hf σ W b a k fr cs hw ht hd henv hk hm
 | _=>exact fun t w p e t1 ds1 w1 h=>plain _ t w p e t1 ds1 w1 h
theorem adeferred_ok (hP:Fit P) (hfol:P.follows .mixedOrders=true) {call:CallF} (hc:CallOk P N call) (hpn:PanOk P N call):DRunOk P N (adeferred (prg P) F call):=by
 intro f args pan w r w1 h σ W as cap fr ds cs hw hm ha hdd
 unfold adeferred at h
 split at h
 case h_1=>cases h
 rename_i fn hfn
 have hfn:=fn_spec hP.funcs hfn
 split at h
 case h_1=>cases h
 rename_i body hbody
 split at h
 case h_1=>cases h
 rename_i hsz
 have hsz:=Nat.le_of_ble_eq_true hsz
 obtain⟨hn,hfit,hname,hres⟩:=hP.codes f fn body hfn hbody
 have hinv:(invoke (.fn (.func f) cap) as).run P W=.ok (.enter f (as++cap)) W:=by
  simp[invoke,callFunc,hfn,hbody,hname]
 have st0:=unwind_call (cs:=cs) hm.notRun hdd hinv
 rw[enter_fat .deferred hfn hbody]at st0
 have ht:=enter_tmps ha hsz
 have henv:EnvOk σ { fn:=f,round:=none } (born f .deferred):=⟨rfl,.inl ⟨rfl,rfl⟩⟩
 split at h
 rename_i p res hres0
 split at h
 case h_2=>cases h
 rename_i v w2 hleft
 simp only[Option.some.injEq,Prod.mk.injEq]at h
 obtain⟨rfl,rfl⟩:=h
 have finish_:∀ (sure:Option Value) (t4:Tmps) (ds4:List DI) (w4:AW) (σ4:Emb) (a4:Act) (W4:World) (fr4 fr':Frame),sure=none->aleave (prg P) (fun _ _ _ _=>none) fn.results.toList sure t4 ds4 w4=.ret v w2->Ext N σ w W σ4 w4 W4->TRel σ4 fn.ntmps t4 a4.tmps->DsRel σ4 ds4 a4.defers ->
     Caught σ4 pan p { fr with defers:=ds } fr'->fr4.mode=.returning->fr4.defers=a4.defers->fr4.tmps=a4.tmps->fr4.fn=f->fr4.kind=.deferred->Steps P (lone fr cs W) (lone fr4 (fr' :: cs) W4) ->
     ∃ σ' W' m,Steps P (lone fr cs W) (lone { fr with defers:=ds,mode:=m } cs W')/\ModeRel σ' (match (!isNone pan && isNone p) with|true=>none|false=>pan) m/\Ext N σ w W σ' w2 W':=by
  intro sure t4 ds4 w4 σ4 a4 W4 fr4 fr' hsure hlv hext ht4 hd4 hcaught m1 m2 m3 m4 m5 hst
  subst hsure
  unfold aleave at hlv
  split at hlv
  . cases hlv
  . cases hlv
  rename_i w5 hun
  split at hlv
  case h_2=>cases hlv
  rename_i vs hvs
  simp only[CR.ret.injEq]at hlv
  obtain⟨rfl,rfl⟩:=hlv
  obtain⟨σ5,W5,mm,s1,s2,s3⟩:=unwind_sim DRunOk.none (cs:=fr' :: cs) hun (fr:=fr4) hext.rel m1 (by rw[m2];exact hd4)
  obtain⟨v',r1,r2⟩:=tupled_sim (sure:=true) hP s3.rel (ht4.mono s3.le) hres hvs
  have s2:mm=.returning:=s2
  subst s2
  have hmode:fr'.mode=.returning \/ ∃ u r,fr'.mode=.panicking [{ v:=u,recovered:=r }]:=by
   rcases hcaught with ⟨_,rfl⟩|⟨_,v,v',_,_,rfl⟩
   . cases pan with
     | none=>exact .inl hm
     | some u=>obtain⟨u',q,_⟩:=hm;exact .inr ⟨u',false,q⟩
   . exact .inr ⟨v',true,rfl⟩
  have st:=deferred_done (P:=P) (fr:={ fr4 with defers:=[],mode:=.returning }) (c:=fr') (cs:=cs) (W:=W5) (fn:=fn) (v:=v') rfl rfl m5 (by show P.funcs[fr4.fn]? = _;rw[m4];exact hfn) (by show (results fn fr4.tmps).run P W5=_;rw[m3];exact r1) hmode
  have all:=(hst.trans s1).trans (.one st)
  have hext5:=hext.trans s3
  rcases hcaught with ⟨rfl,rfl⟩|⟨rfl,u,u',rfl,q1,rfl⟩
  · refine ⟨σ5,W5,fr.mode,?_,?_,hext5⟩
    · have e:after { fr with defers:=ds } = { fr with defers:=ds,mode:=fr.mode }:=by
        cases p with
        | none=>have hm:fr.mode=.returning:=hm;simp[after,hm]
        | some u=>obtain⟨u',q,_⟩:=hm;simp[after,q]
      rw[e]at all
      exact all
    . have e:(!isNone p && isNone p)=false:=by cases p <;> rfl
      rw[e]
      exact hm.mono hext5.le
  . exact⟨σ5,W5,.returning,by simpa [after] using all,rfl,hext5⟩
 unfold left at hleft
 split at hleft
 . cases hleft
 . cases hleft
 · rename_i e4 t4 ds4 w4 hne
   have hnp:∀ u,e4 ≠ .pan u:=fun u q=>by
    subst q
    unfold aleave at hleft
    have key:∀ (ds:List DI) (w:AW) (u:Value) r w',adefers (fun _ _ _ _=>none) (some u) ds w=some (r,w')->r=some u:=by
     intro ds
     induction ds with
     | nil=>intro w u r w' hq;simp only[adefers,Option.some.injEq,Prod.mk.injEq]at hq;exact hq.1.symm
     | cons d ds ih =>
      intro w u r w' hq
      cases d with
      | mark b =>
       simp only[adefers]at hq
       split at hq
       . exact ih _ _ _ _ hq
       . cases hq
      | call f a c=>simp only[adefers]at hq;cases hq
    split at hleft
    . cases hleft
    . cases hleft
    . rename_i hq
      have:=key _ _ _ _ _ hq
      cases this
   obtain⟨σ4,a4,W4,fr',r1,r2,r3,r4,r5⟩:=adcode_sim hP hfol hc hpn hn { fn:=f,round:=none } rfl body _ w p e4 t4 ds4 w4 hres0 hnp hfit σ W (born f .deferred) ⟨_,[]⟩ [] { fr with defers:=ds } cs hw ht rfl henv rfl hm
   cases e4 with
   | normal=>exact finish_ none t4 ds4 w4 σ4 a4 W4 { fat (born f .deferred) a4 []with mode:=.returning } fr' rfl hleft r2 r3 r4 r5 rfl rfl rfl rfl rfl (.head st0 (Steps.trans r1 (.one (fat_end rfl))))
   | exit id=>exact (hne _ rfl).elim
   | ret =>
    obtain⟨k2,r1⟩:=r1
    exact finish_ none t4 ds4 w4 σ4 a4 W4 { fat (born f .deferred) a4 (.code .ret :: k2)with mode:=.returning } fr' rfl hleft r2 r3 r4 r5 rfl rfl rfl rfl rfl (.head st0 (Steps.trans r1 (.one (fat_ret rfl))))
   | pan u=>exact absurd rfl (hnp u)
theorem enter_all (hP:Fit P) (hfol:P.follows .mixedOrders=true) {call:CallF} (hc:CallOk P N call) (hpn:PanOk P N call) {f:FuncId} {args:Array Value} {w w1:AW} {res:CR} (h:aenter (prg P) F call f args w=res) (hres1:(∃ v,res=.ret v w1) \/ ∃ v,res=.pan v w1)
    {σ:Emb} {W:World} {args':Array Value} (cs:List Frame) (hw:WRel N σ w W) (ha:ARel σ args args') :
    ∃ σ' v' W' fr,Steps P (lone (Frame.enter P f args' .normal) cs W) (lone fr cs W')/\fr.fn=f/\Ext N σ w W σ' w1 W' /\
     ((∃ v,res=.ret v w1/\fr.leaving P W' (.returned v')/\VRel σ' v v') \/ (∃ v,res=.pan v w1/\fr.leaving P W' (.panicked [{ v:=v',recovered:=false }])/\VRel σ' v v')):=by
 have hlo:=loop_ok hc
 have hlp:=loop_pan (P:=P) hpn
 have hrun:=adeferred_ok (F:=F) hP hfol hc hpn
 have notFail:∀ y,res ≠ .fail y:=fun y q=>by
  rcases hres1 with ⟨v,e⟩|⟨v,e⟩ <;> rw[e]at q <;> cases q
 unfold aenter at h
 split at h
 case h_1=>exact absurd h.symm (notFail _)
 rename_i fn hfn
 have hfn:=fn_spec hP.funcs hfn
 split at h
 case h_1=>exact absurd h.symm (notFail _)
 rename_i body hbody
 split at h
 case h_2=>exact absurd h.symm (notFail _)
 rename_i hsz
 have hsz:=Nat.le_of_ble_eq_true hsz
 obtain⟨hn,hfit,hname,hres⟩:=hP.codes f fn body hfn hbody
 have henter:=enter_fat .normal hfn hbody args'
 have ht:=enter_tmps ha hsz
 have henv:EnvOk σ { fn:=f,round:=none } (born f .normal):=⟨rfl,.inl ⟨rfl,rfl⟩⟩
 have leave:∀ (pan:Option Value) (t4:Tmps) (ds4:List DI) (w4:AW) (σ4:Emb) (a4:Act) (W4:World) (fr:Frame),aleave (prg P) (adeferred (prg P) F call) fn.results.toList pan t4 ds4 w4=res->Ext N σ w W σ4 w4 W4->TSure σ4 fn.ntmps t4 a4.tmps (isNone pan)->DsRel σ4 ds4 a4.defers ->
     ModeRel σ4 pan fr.mode->fr.defers=a4.defers->fr.tmps=a4.tmps->fr.fn=f->fr.kind=.normal->Steps P (lone (Frame.enter P f args' .normal) cs W) (lone fr cs W4) ->
     ∃ σ' v' W' fr,Steps P (lone (Frame.enter P f args' .normal) cs W) (lone fr cs W')/\fr.fn=f/\Ext N σ w W σ' w1 W' /\
      ((∃ v,res=.ret v w1/\fr.leaving P W' (.returned v')/\VRel σ' v v') \/ (∃ v,res=.pan v w1/\fr.leaving P W' (.panicked [{ v:=v',recovered:=false }])/\VRel σ' v v')):=by
  intro pan t4 ds4 w4 σ4 a4 W4 fr hlv hext ht4 hd4 m1 m2 m3 m4 m5 hst
  unfold aleave at hlv
  split at hlv
  . exact absurd hlv.symm (notFail _)
  · rename_i v w5 hun
    obtain⟨σ5,W5,mm,s1,s2,s3⟩:=unwind_sim hrun (cs:=cs) hun (fr:=fr) hext.rel m1 (by rw[m2];exact hd4)
    obtain⟨v',q1,q2⟩:=s2
    subst q1
    have hw15:w1=w5:=by
     rcases hres1 with ⟨v0,e⟩|⟨v0,e⟩
     . rw[e]at hlv;cases hlv
     . rw[e]at hlv;injection hlv with _ q;exact q.symm
    subst hw15
    exact⟨σ5,v',W5,{ fr with defers:=[],mode:=.panicking [{ v:=v',recovered:=false }] },hst.trans s1,m4,hext.trans s3,.inr ⟨v,hlv.symm,⟨rfl,rfl,fn,by show P.funcs[fr.fn]? = _;rw[m4];exact hfn⟩,q2⟩⟩
  · rename_i w5 hun
    split at hlv
    case h_2=>exact absurd hlv.symm (notFail _)
    rename_i vs hvs
    obtain⟨σ5,W5,mm,s1,s2,s3⟩:=unwind_sim hrun (cs:=cs) hun (fr:=fr) hext.rel m1 (by rw[m2];exact hd4)
    have s2:mm=.returning:=s2
    subst s2
    obtain⟨v',r1,r2⟩:=tupled_sim hP s3.rel (ht4.mono s3.le) hres hvs
    have hw15:w1=w5:=by
     rcases hres1 with ⟨v0,e⟩|⟨v0,e⟩
     . rw[e]at hlv;injection hlv with _ q;exact q.symm
     . rw[e]at hlv;cases hlv
    subst hw15
    refine⟨σ5,v',W5,{ fr with defers:=[],mode:=.returning },hst.trans s1,m4,hext.trans s3,.inl ⟨_,hlv.symm,⟨rfl,rfl,m5,fn,?_,?_⟩,r2⟩⟩
    . show P.funcs[fr.fn]? = some fn;rw[m4];exact hfn
    . show (results fn fr.tmps).run P W5=_;rw[m3];exact r1
 unfold left at h
 split at h
 . exact absurd h.symm (notFail _)
 . exact absurd h.symm (notFail _)
 · rename_i e4 t4 ds4 w4 hne hcode
   cases e4 with
   | normal =>
    obtain⟨σ4,a4,W4,r1,r2,r3,r4⟩:=code_sim hP hfol hc hpn hlo hn _ _ _ _ _ _ _ _ _ _ hcode (fun v q=>by cases q) hfit _ (.inl rfl) σ W (born f .normal) ⟨_,[]⟩ [] cs hw ht .nil henv
    exact leave none t4 ds4 w4 σ4 a4 W4 { fat (born f .normal) a4 []with mode:=.returning } h r2 r3 r4 rfl rfl rfl rfl rfl (by rw[henter];exact Steps.trans r1 (.one (fat_end rfl)))
   | exit id=>exact (hne _ rfl).elim
   | ret =>
    obtain⟨σ4,a4,W4,r1,r2,r3,r4⟩:=code_sim hP hfol hc hpn hlo hn _ _ _ _ _ _ _ _ _ _ hcode (fun v q=>by cases q) hfit _ (.inl rfl) σ W (born f .normal) ⟨_,[]⟩ [] cs hw ht .nil henv
    obtain⟨k2,r1⟩:=r1
    exact leave none t4 ds4 w4 σ4 a4 W4 { fat (born f .normal) a4 (.code .ret :: k2)with mode:=.returning } h r2 r3 r4 rfl rfl rfl rfl rfl (by rw[henter];exact Steps.trans r1 (.one (fat_ret rfl)))
   | pan v =>
    obtain⟨σ4,a4,W4,v',k',r1,r2,r3,r4,r5⟩:=code_pan hP hfol hc hpn hlo hlp hn _ _ _ _ _ _ _ _ _ _ hcode hfit _ (.inl rfl) σ W (born f .normal) ⟨_,[]⟩ [] cs hw ht .nil henv
    exact leave (some v) t4 ds4 w4 σ4 a4 W4 (boom (born f .normal) a4 k' v') h r2 r3 r4 ⟨v',rfl,r5⟩ rfl rfl rfl rfl (by rw[henter];exact r1)
theorem enter_leaves (hP:Fit P) (hfol:P.follows .mixedOrders=true) {call:CallF} (hc:CallOk P N call) (hpn:PanOk P N call) {f:FuncId} {args:Array Value} {w w1:AW} {v:Value} (h:aenter (prg P) F call f args w=.ret v w1)
    {σ:Emb} {W:World} {args':Array Value} (cs:List Frame) (hw:WRel N σ w W) (ha:ARel σ args args') :
    ∃ σ' v' W' fr,Steps P (lone (Frame.enter P f args' .normal) cs W) (lone fr cs W')/\fr.fn=f/\fr.leaving P W' (.returned v')/\Ext N σ w W σ' w1 W'/\VRel σ' v v':=by
 obtain⟨σ',v',W',fr,s1,s2,s3,⟨u,e,s4,s5⟩|⟨u,e,_⟩⟩:=enter_all hP hfol hc hpn h (.inl ⟨v,rfl⟩) cs hw ha
 . injection e with e;subst e
   exact⟨σ',v',W',fr,s1,s2,s4,s3,s5⟩
 . cases e
theorem enter_inv (hP:Fit P) {call:CallF} {f:FuncId} {args:Array Value} {w:AW} {res:CR} (h:aenter (prg P) F call f args w=res) (hnf:∀ y,res ≠ .fail y) (args0 cap:Array Value) (W:World) :
    (invoke (.fn (.func f) cap) args0).run P W=.ok (.enter f (args0++cap)) W:=by
 unfold aenter at h
 split at h
 case h_1=>exact absurd h.symm (hnf _)
 rename_i fn hfn
 have hfn:=fn_spec hP.funcs hfn
 split at h
 case h_1=>exact absurd h.symm (hnf _)
 rename_i body hbody
 obtain⟨_,_,hname,_⟩:=hP.codes f fn body hfn hbody
 simp[invoke,callFunc,hfn,hbody,hname]
theorem enter_ok (hP:Fit P) (hfol:P.follows .mixedOrders=true) {call:CallF} (hc:CallOk P N call) (hpn:PanOk P N call) {f:FuncId} {args:Array Value} {w w1:AW} {v:Value} (h:aenter (prg P) F call f args w=.ret v w1)
    {σ:Emb} {W:World} {args0 cap:Array Value} (c:Frame) (cs:List Frame) (hw:WRel N σ w W) (ha:ARel σ args (args0++cap)) :
    ∃ σ' v' W',Delivers P (.fn (.func f) cap) args0 W c cs v' W'/\Ext N σ w W σ' w1 W'/\VRel σ' v v':=by
 obtain⟨σ',v',W',fr,s,hf,hl,e,r⟩:=enter_leaves hP hfol hc hpn h (c :: cs) hw ha
 refine⟨σ',v',W',?_,e,r⟩
 unfold Delivers
 rw[enter_inv hP h (fun y q=>by cases q) args0 cap W]
 exact s.trans (.one (step_leave_returned hl))
theorem enter_fails (hP:Fit P) (hfol:P.follows .mixedOrders=true) {call:CallF} (hc:CallOk P N call) (hpn:PanOk P N call) {f:FuncId} {args:Array Value} {w w1:AW} {v:Value} (h:aenter (prg P) F call f args w=.pan v w1)
    {σ:Emb} {W:World} {args0 cap:Array Value} (c:Frame) (cs:List Frame) (hw:WRel N σ w W) (ha:ARel σ args (args0++cap)) :
    ∃ σ' v' W',Fails P (.fn (.func f) cap) args0 W c cs v' W'/\Ext N σ w W σ' w1 W'/\VRel σ' v v':=by
 obtain⟨σ',v',W',fr,s1,s2,s3,⟨u,e,_⟩|⟨u,e,s4,s5⟩⟩:=enter_all hP hfol hc hpn h (.inr ⟨v,rfl⟩) (c :: cs) hw ha
 . cases e
 . injection e with e;subst e
   refine⟨σ',v',W',?_,s3,s5⟩
   unfold Fails
   rw[enter_inv hP h (fun y q=>by cases q) args0 cap W]
   exact s1.trans (.one (step_leave_panicked s4))
def ToldOk (P:Program) (N:Nat) (told:ToldF):Prop :=
 ∀ (f:FuncId) (args:Array Value) (w w1:AW) (v:Value),told f args w=some (v,w1) ->
  ∀ (σ:Emb) (W:World) (args0 cap:Array Value) (c:Frame) (cs:List Frame),WRel N σ w W->ARel σ args (args0++cap) ->
   ∃ σ' v' W',Delivers P (.fn (.func f) cap) args0 W c cs v' W'/\Ext N σ w W σ' w1 W'/\VRel σ' v v'
theorem call_both (hP:Fit P) (hfol:P.follows .mixedOrders=true) {told:ToldF} (ht:ToldOk P N told):∀ n,CallOk P N (acall (prg P) told F n)/\PanOk P N (acall (prg P) told F n)
 | 0=>⟨fun t args w v w1 h=>(by cases h),fun t args w v w1 h=>(by cases h)⟩
 | n + 1 => by
  obtain⟨hc,hpn⟩:=call_both hP hfol ht n
  constructor
  · intro t args w v w1 h σ W t' args' c cs hw htr ha
    cases htr with
    | fn hfn hcap =>
     rename_i f g cap cap'
     cases hfn with
     | func f =>
      simp only[acall]at h
      split at h
      . rename_i u w2 hu
        simp only[CR.ret.injEq]at h
        obtain⟨rfl,rfl⟩:=h
        exact ht f _ w _ _ hu σ W args' cap' c cs hw (ARel.append ha hcap)
      . exact enter_ok hP hfol hc hpn h c cs hw (ARel.append ha hcap)
     | yield hl =>
      simp only[acall]at h
      exact around_ok hP hfol hc hpn h c cs hw hl ha
     | method s=>cases h
     | methodOf t s=>cases h
     | via t p f q=>cases h
  · intro t args w v w1 h σ W t' args' c cs hw htr ha
    cases htr with
    | fn hfn hcap =>
     rename_i f g cap cap'
     cases hfn with
     | func f =>
      simp only[acall]at h
      split at h
      . cases h
      . exact enter_fails hP hfol hc hpn h c cs hw (ARel.append ha hcap)
     | yield hl =>
      simp only[acall]at h
      exact around_pan hP hfol hc hpn h c cs hw hl ha
     | method s=>cases h
     | methodOf t s=>cases h
     | via t p f q=>cases h
theorem call_ok (hP:Fit P) (hfol:P.follows .mixedOrders=true) {told:ToldF} (ht:ToldOk P N told) (n:Nat):CallOk P N (acall (prg P) told F n):=(call_both hP hfol ht n).1
theorem call_pan (hP:Fit P) (hfol:P.follows .mixedOrders=true) {told:ToldF} (ht:ToldOk P N told) (n:Nat):PanOk P N (acall (prg P) told F n):=(call_both hP hfol ht n).2
theorem WRel.empty (W:World):WRel W.heap.size (fun _=>none) .empty W:=by
 have hb:∀ b,AW.empty.blk b=none:=fun b=>by simp[AW.empty,AW.blk,Trie.get_leaf]
 have hf:∀ r,AW.empty.family r=[]:=fun r=>by simp[AW.empty,AW.family,Trie.get_leaf]
 exact {
  wf:=fun b k _ h=>by rw[hb]at h;cases h
  lim:=trivial
  dom:=fun b x h=>by cases h
  inj:=fun b b' x x' h=>by cases h
  fam:=fun b c e r base z _ h=>by rw[hb]at h;cases h
  root:=fun b c e r base z _ h=>by rw[hb]at h;cases h
  famIn:=fun r b _ h=>by rw[hf]at h;cases h
  famKey:=fun r _ _=>hf r
  old:=Nat.le_refl _ }
theorem calls_of (hP:Fit P) (hfol:P.follows .mixedOrders=true) {told:ToldF} (ht:∀ N,ToldOk P N told) {n:Nat} {f:FuncId} {v:Value} {w1:AW} (h:aenter (prg P) F (acall (prg P) told F n) f #[] .empty=.ret v w1) (W:World) :
    Calls P f #[] W fun e W'=>∃ σ v',e=.returned v'/\VRel σ v v'/\Ext W.heap.size (fun _=>none) .empty W σ w1 W':=by
 intro cs
 obtain⟨σ',v',W',fr,s,hf,hl,e,r⟩:=enter_leaves hP hfol (call_ok hP hfol (ht W.heap.size) n) (call_pan hP hfol (ht W.heap.size) n) h cs (WRel.empty W) (args':=#[]) (ARel.iff.2 .nil)
 exact⟨.returned v',W',fr,⟨σ',v',rfl,r,e⟩,s,hf,hl⟩
end Go.Sim
