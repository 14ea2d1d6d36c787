/- Open calls of the machine, part 3: structs compared; calls that return or panic, deferred calls that recover. -/
import Derived.Test.YtnbfkakjdifcpaaGreatNc
set_option linter.unusedVariables false
set_option linter.unusedSimpArgs false
namespace Go.Sim
open Go Go.RowKit
theorem prun_pp {P:Program}:prun P program=some P:=rfl
theorem prun_bindS {α β:Type} (p:Program) (f:α->Sem β) {x:Sem α} {a:α} (h:prun p x=some a):prun p (x >>= f)=prun p (f a):=prun_bind p f x h
structure EqF (P:Program) (n:Nat) (xs ys:Array Value) (f:Field) (b:Bool):Prop where
 name:f.name ≠ "_"
 eq:∃ u v,prun P (part f.type xs f.offset)=some u/\prun P (part f.type ys f.offset)=some v/\prun P (Op.equalIn n f.type u v)=some b
inductive EqFs (P:Program) (n:Nat) (xs ys:Array Value):List Field->List Bool->Prop where
 | nil:EqFs P n xs ys [] []
 | cons {f:Field} {b:Bool} {fs:List Field} {bs:List Bool} (h:EqF P n xs ys f b) (k:EqFs P n xs ys fs bs):EqFs P n xs ys (f :: fs) (b :: bs)
theorem eqStruct {P:Program} {ty:TypeId} {fs:Array Field} (hu:P.underlying ty=some (.struct fs)) (hs:P.stoodInHeld ty=false) {n:Nat} {xs ys:Array Value} {bs:List Bool} (h:EqFs P n xs ys fs.toList bs) :
    prun P (Op.equalIn (n+1) ty (.agg xs) (.agg ys))=some (bs.all id):=by
 rw[Op.equalIn]
 rw[prun_bindS _ _ (prun_underlying hu)]
 simp only[]
 rw[prun_bindS _ _ prun_pp]
 simp only[hs,Bool.false_eq_true,if_false]
 rw[<- Array.forIn_toList]
 generalize fs.toList=l at h
 clear hu hs
 induction h with
 | nil=>simp only[List.forIn_nil,pure_bind];rfl
 | @cons f b fs bs h k ih =>
  obtain⟨u,v,h1,h2,h3⟩:=h.eq
  simp only[List.forIn_cons]
  rw[if_pos h.name]
  simp only[bind_assoc]
  rw[prun_bindS _ _ h1,prun_bindS _ _ h2,prun_bindS _ _ h3]
  cases b with
  | false=>rfl
  | true =>
   simp only[Bool.not_true,Bool.false_eq_true,if_false,pure_bind]
   rw[List.all_cons]
   exact ih
theorem part_one {P:Program} {ty:TypeId} (e:prun P (isAgg ty)=some false) {cs:Array Value} {o:Nat} {v:Value} (h:cs[o]? = some v):prun P (part ty cs o)=some v:=by
 unfold part
 rw[prun_bindS _ _ e]
 simp[h,prun]
 rfl
theorem eqInt_at {P:Program} {ty:TypeId} {k:IntKind} (hu:P.underlying ty=some (.int k)) (n:Nat) (a b:Int):prun P (Op.equalIn (n+1) ty (.int k a) (.int k b))=some (a == b):=by
 rw[Op.equalIn]
 rw[prun_bindS _ _ (prun_underlying hu)]
 simp
 rfl
theorem eqF_int {P:Program} {n:Nat} {xs ys:Array Value} {f:Field} {k:IntKind} {a b:Int} (hn:f.name ≠ "_") (hu:P.underlying f.type=some (.int k)) (e:prun P (isAgg f.type)=some false) (hx:xs[f.offset]? = some (.int k a)) (hy:ys[f.offset]? = some (.int k b)):EqF P (n+1) xs ys f (a == b) :=
 ⟨hn,_,_,part_one e hx,part_one e hy,eqInt_at hu n a b⟩
theorem eqQ_eql {P:Program} {ty:TypeId} {xs ys:Array Value} {b:Bool} (hg:prun P (eqGuard .eql ty (.const undef) (.const undef) (.agg xs) (.agg ys))=some ()) (hf:(flat 6 (.agg xs) && flat 6 (.agg ys))=true)
    (h:prun P (Op.equalIn 10000 ty (.agg xs) (.agg ys))=some b):eqQ P .eql ty (.agg xs) (.agg ys)=some (.bool b):=by
 have hb:prun P (do eqGuard .eql ty (.const undef) (.const undef) (.agg xs) (.agg ys);Go.binOp .eql ty (.agg xs) (.agg ys))=some (.bool b):=by
  rw[prun_bindS _ _ hg]
  have he:prun P (Op.equal ty (.agg xs) (.agg ys))=some b:=h
  show prun P ((Op.equal ty (.agg xs) (.agg ys)).bind _)=_
  rw[prun_bind _ _ _ he]
  rfl
 unfold eqQ
 simp only[hf,hb]
 rfl
theorem eqQ_neq {P:Program} {ty:TypeId} {xs ys:Array Value} {b:Bool} (hg:prun P (eqGuard .neq ty (.const undef) (.const undef) (.agg xs) (.agg ys))=some ()) (hf:(flat 6 (.agg xs) && flat 6 (.agg ys))=true)
    (h:prun P (Op.equalIn 10000 ty (.agg xs) (.agg ys))=some b):eqQ P .neq ty (.agg xs) (.agg ys)=some (.bool !b):=by
 have hb:prun P (do eqGuard .neq ty (.const undef) (.const undef) (.agg xs) (.agg ys);Go.binOp .neq ty (.agg xs) (.agg ys))=some (.bool !b):=by
  rw[prun_bindS _ _ hg]
  have he:prun P (Op.equal ty (.agg xs) (.agg ys))=some b:=h
  show prun P ((Op.equal ty (.agg xs) (.agg ys)).bind _)=_
  rw[prun_bind _ _ _ he]
  rfl
 unfold eqQ
 simp only[hf,hb]
 rfl
section
variable (P:Program) (told:ToldF)
def CallX (t:Target) (args:Array Value) (w:AW) (Q R:Value->AW->Prop):Prop :=
 ∃ N,(∃ v w',(∀ F n,N≤F->N≤n->acall (prg P) told F n t args w=.ret v w')/\Q v w') \/ (∃ v w',(∀ F n,N≤F->N≤n->acall (prg P) told F n t args w=.pan v w')/\R v w')
def OpsX (ops:Array Oper) (l:List Oper) (t:Tmps) (w:AW) (Q:Tmps->AW->Prop) (QP:Value->Tmps->AW->Prop):Prop :=
 ∃ N,(∃ t' w',(∀ F n,N≤F->N≤n->aops (prg P) (acall (prg P) told F n) ops l t w=.ok t' w')/\Q t' w') \/ (∃ v t' w',(∀ F n,N≤F->N≤n->aops (prg P) (acall (prg P) told F n) ops l t w=.pan v t' w')/\QP v t' w')
def PhasesX (ops:Array Oper) (before:Array Nat) (l:List Phase) (mask:Nat) (t:Tmps) (seen:List Seen) (w:AW) (Q:Tmps->AW->Prop) (QP:Value->Tmps->AW->Prop):Prop :=
 ∃ N,(∃ t' w',(∀ F n,N≤F->N≤n->aphases (prg P) (acall (prg P) told F n) ops before l mask t seen w=.ok t' w')/\Q t' w') \/ (∃ v t' w',(∀ F n,N≤F->N≤n->aphases (prg P) (acall (prg P) told F n) ops before l mask t seen w=.pan v t' w')/\QP v t' w')
inductive CP where
 | no
 | call (f:Operand) (args:List Operand)
 | pan (x:Operand)
def cpOp:Op->CP
 | .call ⟨.value f,args,_⟩=>.call f args.toList
 | .panic x=>.pan x
 | _=>.no
def CallXR (f:Value) (args:List Value) (w:AW) (K KP:Value->AW->Prop) (_:Tok (w,K,KP)):Prop:=∃ fn first captured,f=.func fn first captured/\CallX P told (.fn fn captured) (first++args.toArray) w K KP
def CallXV (fn:Fn) (cap:Array Value) (first:List Value) (args:List Value) (w:AW) (K KP:Value->AW->Prop) (_:Tok (w,K,KP)):Prop:=CallX P told (.fn fn cap) (first++args).toArray w K KP
def PanR (x:Value) (K:Value->Prop) (_:Tok K):Prop:=∃ ty v,x=.iface ty v/\K x
def StepXR (draw tie:Bool) (o:Oper) (t:Tmps) (w:AW) (K:Tmps->AW->Prop) (KP:Value->Tmps->AW->Prop) (_:Tok (o,t,w,K,KP)):Prop :=
 match cpOp o.op with
 | .no=>StepR P told draw tie o t w K .mk
 | .call f args=>CallXR P told (ev t f) (args.map (ev t)) w (fun v w'=>Owes (draw && tie) (WLe w w') (K (putTmp t o.dst v) w') .mk) (fun v w'=>KP v t w') .mk
 | .pan x=>PanR (ev t x) (fun v=>KP v t w) .mk
def SeqXR (draw:Bool):(l:List SOp)->(t:Tmps)->(w:AW)->(Q:Tmps->AW->Prop)->(QP:Value->Tmps->AW->Prop)->Tok (l,t,w,Q,QP)->Prop
 | [],t,w,Q,_,_=>Q t w
 | ⟨o,g,tie⟩ :: l,t,w,Q,QP,_=>Wants (wantedS g t) (StepXR P told draw tie o t w (fun t w=>SeqXR draw l t w Q QP .mk) QP .mk) (SeqXR draw l (putTmp t o.dst undef) w Q QP .mk) .mk
variable {P told}
theorem CallX.mono {t:Target} {args:Array Value} {w:AW} {Q R Q' R':Value->AW->Prop} (h:CallX P told t args w Q R) (k:∀ v w',Q v w'->Q' v w') (kp:∀ v w',R v w'->R' v w'):CallX P told t args w Q' R':=by
 obtain⟨N,h⟩:=h
 rcases h with ⟨v,w',a,b⟩|⟨v,w',a,b⟩
 . exact⟨N,.inl ⟨v,w',a,k _ _ b⟩⟩
 . exact⟨N,.inr ⟨v,w',a,kp _ _ b⟩⟩
theorem CallT.x {t:Target} {args:Array Value} {w:AW} {Q R:Value->AW->Prop} (h:CallT P told t args w Q):CallX P told t args w Q R :=
 let ⟨N,v,w',a,b⟩:=h;⟨N,.inl ⟨v,w',a,b⟩⟩
theorem CallX.t {t:Target} {args:Array Value} {w:AW} {Q:Value->AW->Prop} (h:CallX P told t args w Q fun _ _=>False):CallT P told t args w Q:=by
 obtain⟨N,h⟩:=h
 rcases h with ⟨v,w',a,b⟩|⟨v,w',a,b⟩
 . exact⟨N,v,w',a,b⟩
 . exact b.elim
theorem CallXR_func {fn:Fn} {first cap:Array Value} {args:List Value} {w:AW} {K KP:Value->AW->Prop} {x:Tok (w,K,KP)}:CallXR P told (.func fn first cap) args w K KP x=CallXV P told fn cap first.toList args w K KP x:=by
 unfold CallXR CallXV
 have e:(first.toList++args).toArray=first++args.toArray:=by simp
 rw[e]
 apply propext
 constructor
 . rintro ⟨_,_,_,h,k⟩;injection h with h1 h2 h3;subst h1 h2 h3;exact k
 . intro k;exact⟨_,_,_,rfl,k⟩
theorem PanR_iface {ty:TypeId} {v:Value} {K:Value->Prop} {x:Tok K}:PanR (.iface ty v) K x=K (.iface ty v):=by
 apply propext
 exact⟨fun ⟨_,_,_,k⟩=>k,fun k=>⟨_,_,rfl,k⟩⟩
theorem callXV_of {fn:Fn} {cap a:Array Value} {first args:List Value} {w:AW} {K KP R RP:Value->AW->Prop} {x:Tok (w,K,KP)} (h:CallX P told (.fn fn cap) a w R RP) (e:(first++args).toArray=a) (k:∀ v w',R v w'->K v w') (kp:∀ v w',RP v w'->KP v w'):CallXV P told fn cap first args w K KP x:=by
 subst e;exact h.mono k kp
theorem callXV_ofT {fn:Fn} {cap a:Array Value} {first args:List Value} {w:AW} {K KP R:Value->AW->Prop} {x:Tok (w,K,KP)} (h:CallT P told (.fn fn cap) a w R) (e:(first++args).toArray=a) (k:∀ v w',R v w'->K v w'):CallXV P told fn cap first args w K KP x:=by
 subst e;exact (CallT.x (h.mono k))
section
variable {draw tie:Bool} {d:Option Tmp} {ty0:TypeId} {pos:String} {af:Array Edge} {gd:Option (Nat × Bool)} {t:Tmps} {w:AW} {K:Tmps->AW->Prop} {KP:Value->Tmps->AW->Prop}
theorem stepX_move {x:Operand} {tk:Tok ((⟨d,.move x,ty0,pos,af,gd⟩:Oper),t,w,K,KP)}:StepXR P told draw tie ⟨d,.move x,ty0,pos,af,gd⟩ t w K KP tk=StepR P told draw tie ⟨d,.move x,ty0,pos,af,gd⟩ t w K .mk:=rfl
theorem stepX_assign {x:Operand} {tk:Tok ((⟨d,.assign x,ty0,pos,af,gd⟩:Oper),t,w,K,KP)}:StepXR P told draw tie ⟨d,.assign x,ty0,pos,af,gd⟩ t w K KP tk=StepR P told draw tie ⟨d,.assign x,ty0,pos,af,gd⟩ t w K .mk:=rfl
theorem stepX_pick {a b c:Operand} {tk:Tok ((⟨d,.pick c a b,ty0,pos,af,gd⟩:Oper),t,w,K,KP)}:StepXR P told draw tie ⟨d,.pick c a b,ty0,pos,af,gd⟩ t w K KP tk=StepR P told draw tie ⟨d,.pick c a b,ty0,pos,af,gd⟩ t w K .mk:=rfl
theorem stepX_bin {op:BinOp} {ty r:TypeId} {x y:Operand} {tk:Tok ((⟨d,.binOp op ty x y r,ty0,pos,af,gd⟩:Oper),t,w,K,KP)}:StepXR P told draw tie ⟨d,.binOp op ty x y r,ty0,pos,af,gd⟩ t w K KP tk=StepR P told draw tie ⟨d,.binOp op ty x y r,ty0,pos,af,gd⟩ t w K .mk:=rfl
theorem stepX_un {op:UnOp} {ty:TypeId} {x:Operand} {tk:Tok ((⟨d,.unOp op ty x,ty0,pos,af,gd⟩:Oper),t,w,K,KP)}:StepXR P told draw tie ⟨d,.unOp op ty x,ty0,pos,af,gd⟩ t w K KP tk=StepR P told draw tie ⟨d,.unOp op ty x,ty0,pos,af,gd⟩ t w K .mk:=rfl
theorem stepX_load {ty:TypeId} {a:Operand} {tk:Tok ((⟨d,.load ty a,ty0,pos,af,gd⟩:Oper),t,w,K,KP)}:StepXR P told draw tie ⟨d,.load ty a,ty0,pos,af,gd⟩ t w K KP tk=StepR P told draw tie ⟨d,.load ty a,ty0,pos,af,gd⟩ t w K .mk:=rfl
theorem stepX_fieldAddr {s:TypeId} {x:Operand} {f:Nat} {tk:Tok ((⟨d,.fieldAddr s x f,ty0,pos,af,gd⟩:Oper),t,w,K,KP)}:StepXR P told draw tie ⟨d,.fieldAddr s x f,ty0,pos,af,gd⟩ t w K KP tk=StepR P told draw tie ⟨d,.fieldAddr s x f,ty0,pos,af,gd⟩ t w K .mk:=rfl
theorem stepX_indexAddr {s:TypeId} {x i:Operand} {tk:Tok ((⟨d,.indexAddr s x i,ty0,pos,af,gd⟩:Oper),t,w,K,KP)}:StepXR P told draw tie ⟨d,.indexAddr s x i,ty0,pos,af,gd⟩ t w K KP tk=StepR P told draw tie ⟨d,.indexAddr s x i,ty0,pos,af,gd⟩ t w K .mk:=rfl
theorem stepX_build {ty:TypeId} {ps:Array (Nat × Operand)} {tk:Tok ((⟨d,.build ty ps,ty0,pos,af,gd⟩:Oper),t,w,K,KP)}:StepXR P told draw tie ⟨d,.build ty ps,ty0,pos,af,gd⟩ t w K KP tk=StepR P told draw tie ⟨d,.build ty ps,ty0,pos,af,gd⟩ t w K .mk:=rfl
theorem stepX_nilCheck {x:Operand} {tk:Tok ((⟨d,.nilCheck x,ty0,pos,af,gd⟩:Oper),t,w,K,KP)}:StepXR P told draw tie ⟨d,.nilCheck x,ty0,pos,af,gd⟩ t w K KP tk=StepR P told draw tie ⟨d,.nilCheck x,ty0,pos,af,gd⟩ t w K .mk:=rfl
theorem stepX_alloc {e:TypeId} {tk:Tok ((⟨d,.alloc e,ty0,pos,af,gd⟩:Oper),t,w,K,KP)}:StepXR P told draw tie ⟨d,.alloc e,ty0,pos,af,gd⟩ t w K KP tk=StepR P told draw tie ⟨d,.alloc e,ty0,pos,af,gd⟩ t w K .mk:=rfl
theorem stepX_box {e:TypeId} {x:Operand} {tk:Tok ((⟨d,.box e x,ty0,pos,af,gd⟩:Oper),t,w,K,KP)}:StepXR P told draw tie ⟨d,.box e x,ty0,pos,af,gd⟩ t w K KP tk=StepR P told draw tie ⟨d,.box e x,ty0,pos,af,gd⟩ t w K .mk:=rfl
theorem stepX_store {ty:TypeId} {a x:Operand} {tk:Tok ((⟨d,.store ty a x,ty0,pos,af,gd⟩:Oper),t,w,K,KP)}:StepXR P told draw tie ⟨d,.store ty a x,ty0,pos,af,gd⟩ t w K KP tk=StepR P told draw tie ⟨d,.store ty a x,ty0,pos,af,gd⟩ t w K .mk:=rfl
theorem stepX_makeMap {ty:TypeId} {x:Option Operand} {tk:Tok ((⟨d,.makeMap ty x,ty0,pos,af,gd⟩:Oper),t,w,K,KP)}:StepXR P told draw tie ⟨d,.makeMap ty x,ty0,pos,af,gd⟩ t w K KP tk=StepR P told draw tie ⟨d,.makeMap ty x,ty0,pos,af,gd⟩ t w K .mk:=rfl
theorem stepX_mapUpdate {ty:TypeId} {m x y:Operand} {tk:Tok ((⟨d,.mapUpdate ty m x y,ty0,pos,af,gd⟩:Oper),t,w,K,KP)}:StepXR P told draw tie ⟨d,.mapUpdate ty m x y,ty0,pos,af,gd⟩ t w K KP tk=StepR P told draw tie ⟨d,.mapUpdate ty m x y,ty0,pos,af,gd⟩ t w K .mk:=rfl
theorem stepX_lookup {ty:TypeId} {m x:Operand} {ok:Bool} {tk:Tok ((⟨d,.lookup ty m x ok,ty0,pos,af,gd⟩:Oper),t,w,K,KP)}:StepXR P told draw tie ⟨d,.lookup ty m x ok,ty0,pos,af,gd⟩ t w K KP tk=StepR P told draw tie ⟨d,.lookup ty m x ok,ty0,pos,af,gd⟩ t w K .mk:=rfl
theorem stepX_iface {ty:TypeId} {x:Operand} {tk:Tok ((⟨d,.makeInterface ty x,ty0,pos,af,gd⟩:Oper),t,w,K,KP)}:StepXR P told draw tie ⟨d,.makeInterface ty x,ty0,pos,af,gd⟩ t w K KP tk=StepR P told draw tie ⟨d,.makeInterface ty x,ty0,pos,af,gd⟩ t w K .mk:=rfl
theorem stepX_call {f:Operand} {args:List Operand} {tys:Array TypeId} {tk:Tok ((⟨d,.call ⟨.value f,⟨args⟩,tys⟩,ty0,pos,af,gd⟩:Oper),t,w,K,KP)}:StepXR P told draw tie ⟨d,.call ⟨.value f,⟨args⟩,tys⟩,ty0,pos,af,gd⟩ t w K KP tk=CallXR P told (ev t f) (args.map (ev t)) w (fun v w'=>Owes (draw && tie) (WLe w w') (K (putTmp t d v) w') .mk) (fun v w'=>KP v t w') .mk:=rfl
theorem stepX_panic {x:Operand} {tk:Tok ((⟨d,.panic x,ty0,pos,af,gd⟩:Oper),t,w,K,KP)}:StepXR P told draw tie ⟨d,.panic x,ty0,pos,af,gd⟩ t w K KP tk=PanR (ev t x) (fun v=>KP v t w) .mk:=rfl
end
theorem cp_no {o:Op} (h:kind o ≠ .effect):cpOp o=.no:=by
 unfold cpOp
 split
 . exact absurd rfl h
 . exact absurd rfl h
 . rfl
theorem stepX_eff {draw tie:Bool} {o:Oper} {t:Tmps} {w:AW} {K:Tmps->AW->Prop} {KP:Value->Tmps->AW->Prop} {x:Tok (o,t,w,K,KP)} (hk:kind o.op=.effect) (h:StepXR P told draw tie o t w K KP x) :
    ∃ N,(∃ t' w',(∀ F n,N≤F->N≤n->effect (prg P) (acall (prg P) told F n) o t w=.ok t' w')/\(draw=true->tie=true->WLe w w')/\K t' w') \/ (∃ v t' w',(∀ F n,N≤F->N≤n->effect (prg P) (acall (prg P) told F n) o t w=.pan v t' w')/\KP v t' w'):=by
 unfold StepXR at h
 cases hc:cpOp o.op with
 | no =>
  rw[hc]at h
  have h2:=stepR_stepT (h:StepR P told draw tie o t w K .mk)
  unfold StepT at h2
  rw[hk]at h2
  obtain⟨N,t',w',a,b,c⟩:=h2
  exact⟨N,.inl ⟨t',w',a,b,c⟩⟩
 | call f args =>
  rw[hc]at h
  obtain⟨fn,first,cap,hf,N,h⟩:=(h:CallXR P told (ev t f) (args.map (ev t)) w _ _ .mk)
  have ho:∃ a ty,o.op=.call ⟨.value f,a,ty⟩/\args=a.toList:=by
   unfold cpOp at hc
   split at hc
   . rename_i f' a' ty' he
     injection hc with h1 h2
     subst h1 h2
     exact⟨_,_,he,rfl⟩
   . cases hc
   . cases hc
  obtain⟨a,ty,ho,rfl⟩:=ho
  have e:(a.toList.map (ev t)).toArray=a.map (ev t):=by
   rw[<- Array.toList_map]
  rw[e]at h
  rcases h with ⟨v,w',h1,h2⟩|⟨v,w',h1,h2⟩
  . refine⟨N,.inl ⟨_,_,fun F n hF hn=>?_,fun q1 q2=>h2.1 (by rw[q1,q2];rfl),h2.2⟩⟩
    simp only[effect,ho,hf,h1 F n hF hn,came]
  . refine⟨N,.inr ⟨_,_,_,fun F n hF hn=>?_,h2⟩⟩
    simp only[effect,ho,hf,h1 F n hF hn,came]
 | pan y =>
  rw[hc]at h
  obtain⟨ty,v,hx,h⟩:=(h:PanR (ev t y) _ .mk)
  have ho:o.op=.panic y:=by
   unfold cpOp at hc
   split at hc
   . cases hc
   . rename_i he;injection hc with hc;subst hc;exact he
   . cases hc
  refine⟨0,.inr ⟨_,_,_,fun F n hF hn=>?_,h⟩⟩
  simp only[effect,ho,hx]
theorem seqXR_ops (ops:Array Oper):∀ (l:List Oper) {t:Tmps} {w:AW} {Q:Tmps->AW->Prop} {QP:Value->Tmps->AW->Prop} {x:Tok ((l.map fun o=>(⟨bare o,guardOf ops o,false⟩:SOp)),t,w,Q,QP)},SeqXR P told false (l.map fun o=>⟨bare o,guardOf ops o,false⟩) t w Q QP x->OpsX P told ops l t w Q QP
 | [],t,w,Q,QP,x,h=>⟨0,.inl ⟨_,_,fun _ _ _ _=>rfl,h⟩⟩
 | o :: l,t,w,Q,QP,x,h=>by
  have h:SeqXR P told false (⟨bare o,guardOf ops o,false⟩ :: l.map fun o=>⟨bare o,guardOf ops o,false⟩) t w Q QP .mk:=by cases x;exact h
  simp only[SeqXR,wantedS_eq]at h
  cases hw:wantedA ops o t with
  | false =>
   rw[hw]at h
   obtain⟨N,h⟩:=seqXR_ops ops l (h:SeqXR P told false (l.map fun o=>⟨bare o,guardOf ops o,false⟩) (putTmp t o.dst undef) w Q QP .mk)
   refine⟨N,?_⟩
   rcases h with ⟨t',w',a,b⟩|⟨v,t',w',a,b⟩
   . exact .inl ⟨t',w',fun F n hF hn=>by simp only[aops,hw];exact a F n hF hn,b⟩
   . exact .inr ⟨v,t',w',fun F n hF hn=>by simp only[aops,hw];exact a F n hF hn,b⟩
  | true =>
   rw[hw]at h
   have h:StepXR P told false false (bare o) t w (fun t w=>SeqXR P told false (l.map fun o=>⟨bare o,guardOf ops o,false⟩) t w Q QP .mk) QP .mk:=h
   cases hk:kind o.op with
   | effect =>
    obtain⟨N,h⟩:=stepX_eff (o:=bare o) hk h
    rcases h with ⟨t1,w1,a,_,b⟩|⟨v,t1,w1,a,b⟩
    . obtain⟨N2,h2⟩:=seqXR_ops ops l b
      have a:∀ F n,N≤F->N≤n->effect (prg P) (acall (prg P) told F n) o t w=.ok t1 w1:=a
      refine⟨N+N2,?_⟩
      rcases h2 with ⟨t',w',c,d⟩|⟨v,t',w',c,d⟩
      . exact .inl ⟨t',w',fun F n hF hn=>by simp only[aops,hw,aop,hk,a F n (by omega) (by omega)];exact c F n (by omega) (by omega),d⟩
      . exact .inr ⟨v,t',w',fun F n hF hn=>by simp only[aops,hw,aop,hk,a F n (by omega) (by omega)];exact c F n (by omega) (by omega),d⟩
    . have a:∀ F n,N≤F->N≤n->effect (prg P) (acall (prg P) told F n) o t w=.pan v t1 w1:=a
      exact⟨N,.inr ⟨v,t1,w1,fun F n hF hn=>by simp only[aops,hw,aop,hk,a F n hF hn],b⟩⟩
   | quiet =>
    have hc:cpOp (bare o).op=.no:=cp_no (by rw[show (bare o).op=o.op from rfl,hk];intro q;cases q)
    unfold StepXR at h
    rw[hc]at h
    have h2:=stepR_stepT (h:StepR P told false false (bare o) t w _ .mk)
    unfold StepT at h2
    rw[show kind (bare o).op=.quiet from hk]at h2
    obtain⟨v,h3,_,h4⟩:=h2
    have h3:quiet (prg P) t w o=some v:=h3
    obtain⟨N,h5⟩:=seqXR_ops ops l h4
    refine⟨N,?_⟩
    rcases h5 with ⟨t',w',c,d⟩|⟨v',t',w',c,d⟩
    . exact .inl ⟨t',w',fun F n hF hn=>by simp only[aops,hw,aop,hk,h3];exact c F n hF hn,d⟩
    . exact .inr ⟨v',t',w',fun F n hF hn=>by simp only[aops,hw,aop,hk,h3];exact c F n hF hn,d⟩
   | makes =>
    have hc:cpOp (bare o).op=.no:=cp_no (by rw[show (bare o).op=o.op from rfl,hk];intro q;cases q)
    unfold StepXR at h
    rw[hc]at h
    have h2:=stepR_stepT (h:StepR P told false false (bare o) t w _ .mk)
    unfold StepT at h2
    rw[show kind (bare o).op=.makes from hk]at h2
    obtain⟨c,e,f,h3,_,h4⟩:=h2
    have h3:makes (prg P) t o.op=some (c,e,f):=h3
    have hfull:w.full=false:=rfl
    obtain⟨N,h5⟩:=seqXR_ops ops l h4
    refine⟨N,?_⟩
    rcases h5 with ⟨t',w',c,d⟩|⟨v',t',w',c,d⟩
    . exact .inl ⟨t',w',fun F n hF hn=>by simp only[aops,hw,aop,hk,hfull,h3];exact c F n hF hn,d⟩
    . exact .inr ⟨v',t',w',fun F n hF hn=>by simp only[aops,hw,aop,hk,hfull,h3];exact c F n hF hn,d⟩
theorem seqXR_split {draw:Bool}:∀ {qs rest:List SOp} {t:Tmps} {w:AW} {Q:Tmps->AW->Prop} {QP:Value->Tmps->AW->Prop},(∀ s ∈ qs,kind s.o.op ≠ .effect)->SeqXR P told draw (qs++rest) t w Q QP .mk->SeqT P told draw (qs++[]) t w fun t w=>SeqXR P told draw rest t w Q QP .mk
 | [],rest,t,w,Q,QP,_,h=>h
 | ⟨o,g,tie⟩ :: qs,rest,t,w,Q,QP,hk,h=>by
  have h:SeqXR P told draw (⟨o,g,tie⟩ :: (qs++rest)) t w Q QP .mk:=h
  simp only[SeqXR]at h
  simp only[List.cons_append,SeqT]
  cases hw:wantedS g t with
  | false =>
   rw[hw]at h
   exact seqXR_split (fun s hs=>hk s (List.mem_cons_of_mem _ hs)) (h:SeqXR P told draw (qs++rest) (putTmp t o.dst undef) w Q QP .mk)
  | true =>
   rw[hw]at h
   have h:StepXR P told draw tie o t w (fun t w=>SeqXR P told draw (qs++rest) t w Q QP .mk) QP .mk:=h
   have hc:cpOp o.op=.no:=cp_no (hk _ List.mem_cons_self)
   unfold StepXR at h
   rw[hc]at h
   have h2:=stepR_stepT (h:StepR P told draw tie o t w _ .mk)
   exact h2.mono fun t' w' q=>seqXR_split (fun s hs=>hk s (List.mem_cons_of_mem _ hs)) q
theorem sQuiets_kind (ops:Array Oper):∀ {is:List Nat} {qs:List SOp},sQuiets ops is=some qs->∀ s ∈ qs,kind s.o.op ≠ .effect
 | [],qs,h,s,hs=>by
  simp only[sQuiets,Option.some.injEq]at h
  subst h;cases hs
 | i :: l,qs,h,s,hs=>by
  simp only[sQuiets]at h
  split at h
  case h_2=>cases h
  rename_i o r ho hr
  have hq':kind o.op ≠ .effect/\qs=⟨bare o,guardOf ops o,true⟩ :: r:=by
   revert h
   split
   . intro e;cases e
   . rename_i hne
     intro e;injection e with e;exact⟨fun q=>hne q,e.symm⟩
  obtain⟨hne,rfl⟩:=hq'
  rcases List.mem_cons.mp hs with e|e
  . subst e;exact hne
  . exact sQuiets_kind ops hr s e
theorem phasesX_ok (ops:Array Oper) (before:Array Nat):∀ (l:List Phase) {mask:Nat} {idx:List Nat} {ss:List SOp} {t:Tmps} {w:AW} {seen:List Seen} {Q:Tmps->AW->Prop} {QP:Value->Tmps->AW->Prop},
    sPhases ops before l mask idx=some ss->SeenOk (prg P) mask w seen->(∀ s ∈ seen,s.i ∈ idx)->SeqXR P told true ss t w Q QP .mk->PhasesX P told ops before l mask t seen w Q QP
 | [],mask,idx,ss,t,w,seen,Q,QP,hp,hs,hi,h=>by
  simp only[sPhases,Option.some.injEq]at hp
  subst hp
  exact⟨0,.inl ⟨t,w,fun _ _ _ _=>rfl,h⟩⟩
 | ph :: l,mask,idx,ss,t,w,seen,Q,QP,hp,hs,hi,h=>by
  simp only[sPhases]at hp
  split at hp
  case h_1=>cases hp
  rename_i qs hqs
  have hqk:=sQuiets_kind ops hqs
  split at hp
  · rename_i heff
    split at hp
    case h_2=>cases hp
    rename_i r hr
    injection hp with hp;subst hp
    obtain⟨t',seen',w',a1,a2,a3,a4,a5,a6⟩:=quiets_ok ops mask ph.quiets hqs hs (seqXR_split hqk h)
    have hi':∀ s ∈ seen',s.i ∈ idx++ph.quiets:=fun s q=>by
     rcases a4 s q with e|e
     . exact List.mem_append_left _ (hi s e)
     . exact List.mem_append_right _ e
    obtain⟨N,h2⟩:=phasesX_ok ops before l hr a2 hi' a5
    have look1:looksAgain (prg P) mask w' seen=true:=looks_of fun s q=>a2 s (a6 s q)
    have look2:looksAgain (prg P) mask w' seen'=true:=looks_of a2
    refine⟨N,?_⟩
    rcases h2 with ⟨t2,w2,b1,b2⟩|⟨v,t2,w2,b1,b2⟩
    . exact .inl ⟨t2,w2,fun F n hF hn=>by cases hnb:Nat.beq w'.next w.next <;> simp only[aphases,a1,hnb,look1,look2,heff] <;> exact b1 F n hF hn,b2⟩
    . exact .inr ⟨v,t2,w2,fun F n hF hn=>by cases hnb:Nat.beq w'.next w.next <;> simp only[aphases,a1,hnb,look1,look2,heff] <;> exact b1 F n hF hn,b2⟩
  · rename_i i heff
    split at hp
    case h_1=>cases hp
    rename_i o ho
    split at hp
    case h_1=>cases hp
    rename_i hall
    simp only[Bool.and_eq_true]at hall
    obtain⟨hall,hke⟩:=hall
    have hke:kind o.op=.effect:=by
     unfold isEffect at hke
     split at hke
     . assumption
     . cases hke
    split at hp
    case h_2=>cases hp
    rename_i r hr
    injection hp with hp;subst hp
    obtain⟨t',seen',w',a1,a2,a3,a4,a5,a6⟩:=quiets_ok ops mask ph.quiets hqs hs (seqXR_split hqk h)
    have hi':∀ s ∈ seen',s.i ∈ idx++ph.quiets:=fun s q=>by
     rcases a4 s q with e|e
     . exact List.mem_append_left _ (hi s e)
     . exact List.mem_append_right _ e
    have look1:looksAgain (prg P) mask w' seen=true:=looks_of fun s q=>a2 s (a6 s q)
    have look2:looksAgain (prg P) mask w' seen'=true:=looks_of a2
    simp only[SeqT,SeqXR,wantedS_eq]at a5
    have go_on:∀ w2,(((idx++ph.quiets).any fun j=>!(before.getD i 0).testBit j)=true->WLe w' w2)->SeenOk (prg P) (before.getD i 0) w2 seen':=by
     intro w2 hle s q
     cases hb:(before.getD i 0).testBit s.i with
     | true=>exact .inl rfl
     | false =>
      have hx:=hi' s q
      have hany:((idx++ph.quiets).any fun j=>!(before.getD i 0).testBit j)=true:=List.any_eq_true.mpr ⟨s.i,hx,by simp only[hb,Bool.not_false]⟩
      have hm:=List.all_eq_true.mp hall s.i hx
      rw[hb]at hm
      rcases a2 s q with e|e
      . rw[e]at hm;cases hm
      . exact .inr (e.le (hle hany))
    cases hw:wantedA ops o t' with
    | false =>
     rw[hw]at a5
     obtain⟨N,h2⟩:=phasesX_ok ops before l hr (go_on w' fun _=>.refl _) hi' (a5:SeqXR P told true r (putTmp t' (bare o).dst undef) w' Q QP .mk)
     refine⟨N,?_⟩
     rcases h2 with ⟨t2,w2,b1,b2⟩|⟨v,t2,w2,b1,b2⟩
     . exact .inl ⟨t2,w2,fun F n hF hn=>by cases hnb:Nat.beq w'.next w.next <;> simp only[aphases,a1,hnb,look1,look2,heff,aeffect,ho,hw] <;> exact b1 F n hF hn,b2⟩
     . exact .inr ⟨v,t2,w2,fun F n hF hn=>by cases hnb:Nat.beq w'.next w.next <;> simp only[aphases,a1,hnb,look1,look2,heff,aeffect,ho,hw] <;> exact b1 F n hF hn,b2⟩
    | true =>
     rw[hw]at a5
     have a5:StepXR P told true ((idx++ph.quiets).any fun j=>!(before.getD i 0).testBit j) (bare o) t' w' (fun t w=>SeqXR P told true r t w Q QP .mk) QP .mk:=a5
     obtain⟨N,h3⟩:=stepX_eff (o:=bare o) hke a5
     rcases h3 with ⟨t2,w2,e1,e2,e3⟩|⟨v,t2,w2,e1,e2⟩
     . have e1:∀ F n,N≤F->N≤n->effect (prg P) (acall (prg P) told F n) o t' w'=.ok t2 w2:=e1
       obtain⟨N2,h4⟩:=phasesX_ok ops before l hr (go_on w2 (e2 rfl)) hi' e3
       refine⟨N+N2,?_⟩
       rcases h4 with ⟨t3,w3,b1,b2⟩|⟨v,t3,w3,b1,b2⟩
       . exact .inl ⟨t3,w3,fun F n hF hn=>by cases hnb:Nat.beq w'.next w.next <;> simp only[aphases,a1,hnb,look1,look2,heff,aeffect,ho,hw,e1 F n (by omega) (by omega)] <;> exact b1 F n (by omega) (by omega),b2⟩
       . exact .inr ⟨v,t3,w3,fun F n hF hn=>by cases hnb:Nat.beq w'.next w.next <;> simp only[aphases,a1,hnb,look1,look2,heff,aeffect,ho,hw,e1 F n (by omega) (by omega)] <;> exact b1 F n (by omega) (by omega),b2⟩
     . have e1:∀ F n,N≤F->N≤n->effect (prg P) (acall (prg P) told F n) o t' w'=.pan v t2 w2:=e1
       exact⟨N,.inr ⟨v,t2,w2,fun F n hF hn=>by cases hnb:Nat.beq w'.next w.next <;> simp only[aphases,a1,hnb,look1,look2,heff,aeffect,ho,hw,e1 F n hF hn],e2⟩⟩
end
section
variable (P:Program) (told:ToldF) (env:Env)
def panQ (draw:Bool) (Q:Post) (ds:List DI) (v:Value) (t:Tmps) (w:AW):Prop:=match draw with
 | false=>Q (.pan v) t ds w
 | true=>∀ t',Q (.pan v) t' ds w
def RawR (c:Code) (t:Tmps) (ds:List DI) (w:AW) (Q:Post) (_:Tok (c,t,ds,w,Q)):Prop:=CodeT P told env c t ds w Q
def CodeX:(s:SC)->(t:Tmps)->(ds:List DI)->(w:AW)->(Q:Post)->Tok (s,t,ds,w,Q)->Prop
 | .skip,t,ds,w,Q,_=>Q .normal t ds w
 | .ops draw l,t,ds,w,Q,_=>SeqXR P told draw l t w (fun t' w'=>Q .normal t' ds w') (panQ draw Q ds) .mk
 | .seq a b,t,ds,w,Q,_=>CodeX a t ds w (seqQ (fun t ds w=>CodeX b t ds w Q .mk) Q) .mk
 | .cond c a b,t,ds,w,Q,_=>Cond (ev t c) (CodeX a t ds w Q .mk) (CodeX b t ds w Q .mk) .mk
 | .block id b,t,ds,w,Q,_=>CodeX b t ds w (blockQ id Q) .mk
 | .loop b,t,ds,w,Q,_=>LoopR (fun t ds w Q=>CodeX b t ds w Q .mk) t ds w Q .mk
 | .exit id,t,ds,w,Q,_=>Q (.exit id) t ds w
 | .ret,t,ds,w,Q,_=>Q .ret t ds w
 | .raw c,t,ds,w,Q,_=>RawR P told env c t ds w Q .mk
variable {P told env}
theorem codeX_codeT:∀ (c:Code) {t:Tmps} {ds:List DI} {w:AW} {Q:Post} {x:Tok (sOf c,t,ds,w,Q)},CodeX P told env (sOf c) t ds w Q x->CodeT P told env c t ds w Q:=by
 intro c
 induction c with
 | skip=>intro t ds w Q x h;exact codeT_skip h
 | label=>intro t ds w Q x h;exact codeT_label h
 | region id ops draw =>
  intro t ds w Q x h
  have key:∀ s,sOf (.region id ops draw)=s->∀ y:Tok (s,t,ds,w,Q),CodeX P told env s t ds w Q y->CodeX P told env s t ds w Q .mk:=fun s _ y q=>by cases y;exact q
  have h2:=key _ rfl x h
  clear key h
  revert h2
  simp only[sOf]
  cases hdf:hasDefer ops.toList with
  | true=>exact fun h=>h
  | false =>
  cases draw with
  | false =>
   intro h
   obtain⟨N,h⟩:=seqXR_ops (P:=P) (told:=told) ops ops.toList h
   rcases h with ⟨t',w',a,b⟩|⟨v,t',w',a,b⟩
   · exact ⟨N+1,_,_,_,_,fun F n m hF hn hm=>by
       obtain⟨m,rfl⟩:∃ k,m=k+1:=⟨m - 1,by omega⟩
       simp only[acode,hdf,aregion,a F n (by omega) (by omega)],b⟩
   · exact ⟨N+1,_,_,_,_,fun F n m hF hn hm=>by
       obtain⟨m,rfl⟩:∃ k,m=k+1:=⟨m - 1,by omega⟩
       simp only[acode,hdf,aregion,a F n (by omega) (by omega)],b⟩
  | true =>
   simp only
   cases hp:planOf ops with
   | none=>exact fun h=>h
   | some p =>
    simp only
    cases hs:sPhases ops p.before p.phases 0 [] with
    | none=>exact fun h=>h
    | some l =>
     intro h
     obtain⟨N,h⟩:=phasesX_ok (P:=P) (told:=told) ops p.before p.phases (seen:=[]) hs (fun s q=>by cases q) (fun s q=>by cases q) h
     obtain⟨ph,bf⟩:=p
     rcases h with ⟨t',w',a,b⟩|⟨v,t',w',a,b⟩
     · exact ⟨N+1,_,_,_,_,fun F n m hF hn hm=>by
         obtain⟨m,rfl⟩:∃ k,m=k+1:=⟨m - 1,by omega⟩
         simp only[acode,hdf,aregion,hp,a F n (by omega) (by omega),wiped],b⟩
     · exact ⟨N+1,.pan v,wipe ops.toList t,ds,w',fun F n m hF hn hm=>by
         obtain⟨m,rfl⟩:∃ k,m=k+1:=⟨m - 1,by omega⟩
         simp only[acode,hdf,aregion,hp,a F n (by omega) (by omega),wiped],b _⟩
 | seq a b iha ihb =>
  intro t ds w Q x h
  refine codeT_seq ((iha h).mono ?_)
  intro e t' ds' w' q
  cases e with
  | normal=>exact ihb q
  | exit id=>exact q
  | ret=>exact q
  | pan v=>exact q
 | cond c a b iha ihb =>
  intro t ds w Q x h
  obtain⟨z,hx,h1,h2⟩:=h
  refine codeT_cond hx ?_
  cases z with
  | true=>exact iha (h1 rfl)
  | false=>exact ihb (h2 rfl)
 | block id b ih =>
  intro t ds w Q x h
  refine codeT_block ((ih h).mono ?_)
  intro e t' ds' w' q
  cases e with
  | normal=>exact q
  | ret=>exact q
  | pan v=>exact q
  | exit i =>
   simp only
   simp only[blockQ]at q
   cases hb:Nat.beq i id with
   | true=>rw[hb]at q;exact q
   | false=>rw[hb]at q;exact q
 | loop b ih =>
  intro t ds w Q x h
  obtain⟨I,k,h1,h2⟩:=h
  refine codeT_loop I (fun k t ds w hI=>(ih (h2 k t ds w hI)).mono ?_) k t ds w h1
  intro e t' ds' w' q
  cases e with
  | normal=>exact q
  | exit id=>exact q
  | ret=>exact q
  | pan v=>exact q
 | scope b ih=>intro t ds w Q x h;exact codeT_scope (ih h)
 | exit id=>intro t ds w Q x h;exact codeT_exit h
 | ret=>intro t ds w Q x h;exact codeT_ret h
 | goto l=>intro t ds w Q x h;exact h
 | refuse y=>intro t ds w Q x h;exact h
 | rangeFunc f ps a b iha ihb=>intro t ds w Q x h;exact h
end
end Go.Sim

namespace Go.Sim
open Go Go.RowKit
section
variable (P:Program) (told:ToldF)
def DefT (f:FuncId) (args:Array Value) (pan:Option Value) (w:AW) (K:Bool->AW->Prop):Prop :=
 ∃ N b w',(∀ F n,N≤F->N≤n->adeferred (prg P) F (acall (prg P) told F n) f args pan w=some (b,w'))/\K b w'
def DefersT (pan:Option Value) (ds:List DI) (w:AW) (K:Option Value->AW->Prop):Prop :=
 ∃ N p w',(∀ F n,N≤F->N≤n->adefers (adeferred (prg P) F (acall (prg P) told F n)) pan ds w=some (p,w'))/\K p w'
def LeftX (rs:List ResultVar) (e:Ex) (t:Tmps) (ds:List DI) (w:AW) (Q R:Value->AW->Prop):Prop :=
 (∀ id,e ≠ .exit id)/\DefersT P told (exPan e) ds w fun p w1=>match p with
   | some v=>R v w1
   | none=>∃ vs,aresults (prg P) (isNone (exPan e)) t w1 rs=some vs/\Q (tupled vs) w1
variable {P told}
theorem DefersT.nil {pan:Option Value} {w:AW} {K:Option Value->AW->Prop}:DefersT P told pan [] w K=K pan w:=by
 apply propext
 constructor
 . rintro ⟨N,p,w',h,k⟩
   have:=h N N (Nat.le_refl _) (Nat.le_refl _)
   simp only[adefers,Option.some.injEq,Prod.mk.injEq]at this
   obtain⟨rfl,rfl⟩:=this
   exact k
 . intro k;exact⟨0,pan,w,fun _ _ _ _=>rfl,k⟩
theorem DefersT.call {f:FuncId} {args cap:Array Value} {ds:List DI} {pan:Option Value} {w:AW} {K:Option Value->AW->Prop} (h:DefT P told f (args++cap) pan w fun b w'=>DefersT P told (match b with|true=>none|false=>pan) ds w' K):DefersT P told pan (.call f args cap :: ds) w K:=by
 obtain⟨N,b,w',h1,N2,p,w2,h2,k⟩:=h
 refine⟨N+N2,p,w2,fun F n hF hn=>?_,k⟩
 cases b with
 | true=>simp only[adefers,h1 F n (by omega) (by omega)];exact h2 F n (by omega) (by omega)
 | false=>simp only[adefers,h1 F n (by omega) (by omega)];exact h2 F n (by omega) (by omega)
theorem LeftX_normal {rs:List ResultVar} {t:Tmps} {w:AW} {Q R:Value->AW->Prop}:LeftX P told rs .normal t [] w Q R=Then (aresults (prg P) true t w rs) (fun vs=>Q (tupled vs) w) .mk:=by
 simp[LeftX,DefersT.nil,exPan,isNone,Then]
theorem LeftX_pan {rs:List ResultVar} {v:Value} {t:Tmps} {w:AW} {Q R:Value->AW->Prop}:LeftX P told rs (.pan v) t [] w Q R=R v w:=by
 simp[LeftX,DefersT.nil,exPan]
theorem callX_enter {f:FuncId} {captured args:Array Value} {w:AW} {Q R:Value->AW->Prop} {fn:Func} {c:Code} (htold:told f (args++captured) w=none) (hf:P.funcs[f]? = some fn) (hlt:Nat.blt f 16777215=true) (hc:fn.body=some c)
    (hn:Nat.ble (args++captured).size fn.ntmps=true)
    (h:CodeT P told { fn:=f,round:=none } c (fillFrom 0 (args++captured).toList .leaf) [] w fun e t ds w'=>LeftX P told fn.results.toList e t ds w' Q R):CallX P told (.fn (.func f) captured) args w Q R:=by
 obtain⟨N,e,t,ds,w',a,hne,N2,p,w1,h1,h2⟩:=h
 have hgo:∀ F n,N+N2≤F->N+N2≤n->acall (prg P) told F (n+1) (.fn (.func f) captured) args w=aleave (prg P) (adeferred (prg P) F (acall (prg P) told F n)) fn.results.toList (exPan e) t ds w':=fun F n hF hn2=>by
  simp only[acall,htold,aenter,fn_eq hf hlt,hc,hn,a F n F (by omega) (by omega) (by omega)]
  cases e with
  | exit id=>exact absurd rfl (hne id)
  | pan v=>rfl
  | normal=>rfl
  | ret=>rfl
 refine⟨N+N2+1,?_⟩
 cases p with
 | some v =>
  refine .inr ⟨v,w1,fun F n hF hn2=>?_,h2⟩
  obtain⟨n,rfl⟩:∃ k,n=k+1:=⟨n - 1,by omega⟩
  rw[hgo F n (by omega) (by omega)]
  simp only[aleave,h1 F n (by omega) (by omega)]
 | none =>
  obtain⟨vs,h3,h4⟩:=h2
  refine .inl ⟨tupled vs,w1,fun F n hF hn2=>?_,h4⟩
  obtain⟨n,rfl⟩:∃ k,n=k+1:=⟨n - 1,by omega⟩
  rw[hgo F n (by omega) (by omega)]
  simp only[aleave,h1 F n (by omega) (by omega),h3]
theorem callX_code {f:FuncId} {captured args:Array Value} {w:AW} {Q R:Value->AW->Prop} {fn:Func} {s:SC} (htold:told f (args++captured) w=none) (hf:P.funcs[f]? = some fn) (hlt:Nat.blt f 16777215=true) (hs:fn.body.map sOf=some s)
    (hn:Nat.ble (args++captured).size fn.ntmps=true)
    (h:CodeX P told { fn:=f,round:=none } s (fillFrom 0 (args++captured).toList .leaf) [] w (fun e t ds w'=>LeftX P told fn.results.toList e t ds w' Q R) .mk):CallX P told (.fn (.func f) captured) args w Q R:=by
 obtain⟨c,hc,rfl⟩:=Option.map_eq_some_iff.mp hs
 exact callX_enter htold hf hlt hc hn (codeX_codeT c h)
theorem resX_nil {t:Tmps} {w:AW}:aresults (prg P) false t w []=some []:=rfl
theorem resX_cell {t:Tmps} {w:AW} {a:Tmp} {ty:TypeId} {l:List ResultVar}:aresults (prg P) false t w (.cell a ty :: l)=match (match (prg P).ty ty with|some i=>loadV w i.agg i.size (ev t (.tmp a))|none=>none),aresults (prg P) false t w l with|some v,some vs=>some (v :: vs)|_,_=>none:=by
 simp only[aresults,aresult,fast]
 cases (prg P).ty ty <;> rfl
theorem defT_code {f:FuncId} {fn:Func} {id:Nat} {ops:Array Oper} {b:Code} {args:Array Value} {pan:Option Value} {w:AW} {K:Bool->AW->Prop} {dst:Option Tmp} {a:Array Operand} {tys:Array TypeId} {ty:TypeId} {pos:String} {af:Array Edge} {l:List Oper}
    (hf:P.funcs[f]? = some fn) (hlt:Nat.blt f 16777215=true) (hc:fn.body=some (.seq (.region id ops false) b)) (ho:ops.toList=⟨dst,.call ⟨.builtin .recover,a,tys⟩,ty,pos,af,none⟩ :: l) (hn:Nat.ble args.size fn.ntmps=true)
    (h:OpsT P told ops l (putTmp (fillFrom 0 args.toList .leaf) dst (pan.getD .nilIface)) w fun t1 w1=>CodeT P told { fn:=f,round:=none } b t1 [] w1 fun e t ds w'=>(e=.normal \/ e=.ret)/\ds=[]/\∃ vs,aresults (prg P) true t w' fn.results.toList=some vs/\K (!isNone pan) w'):DefT P told f args pan w K:=by
 obtain⟨N,t1,w1,h1,N2,e,t,ds,w',h2,he,rfl,vs,h3,h4⟩:=h
 refine⟨N+N2,!isNone pan,w',fun F n hF hn2=>?_,h4⟩
 simp only[adeferred,fn_eq hf hlt,hc,hn,adcode,ho,h1 F n (by omega) (by omega),h2 F n F (by omega) (by omega) (by omega)]
 rcases he with rfl|rfl <;> simp[left,aleave,adefers,exPan,isNone,h3]
def AdS (P:Program) (env:Env):List SOp->Tmps->List DI->AW->Post->Prop
 | [],t,ds,w,Q=>Q .normal t ds w
 | ⟨o,g,_⟩ :: l,t,ds,w,Q=>match wantedS g t with
  | false=>AdS P env l (putTmp t o.dst undef) ds w Q
  | true=>match o.op with
   | .defer ⟨.value f,args,_⟩=>env.round=none/\∃ fn first captured,ev t f=.func (.func fn) first captured/\AdS P env l (putTmp t o.dst undef) (.call fn (first++args.map (ev t)) captured :: ds) w Q
   | _=>isDefer o=false/\kind o.op=.quiet/\∃ v,QV (prg P) t w o.op=some v/\AdS P env l (putTmp t o.dst v) ds w Q
theorem adS_ops {env:Env} (ops:Array Oper):∀ (l:List Oper) {t:Tmps} {ds:List DI} {w:AW} {Q:Post},AdS P env (l.map fun o=>⟨bare o,guardOf ops o,false⟩) t ds w Q->∃ e t' ds' w',(∀ call,adops (prg P) call env ops l t ds w=.go e t' ds' w')/\Q e t' ds' w'
 | [],t,ds,w,Q,h=>⟨_,_,_,_,fun _=>rfl,h⟩
 | o :: l,t,ds,w,Q,h=>by
  simp only[List.map_cons,AdS,wantedS_eq]at h
  cases hw:wantedA ops o t with
  | false =>
   rw[hw]at h
   obtain⟨e,t',ds',w',a,b⟩:=adS_ops ops l h
   exact⟨e,t',ds',w',fun call=>by simp only[adops,hw];exact a call,b⟩
  | true =>
   rw[hw]at h
   simp only at h
   split at h
   . rename_i f args tys ho
     have ho:o.op=.defer ⟨.value f,args,tys⟩:=ho
     obtain⟨hr,fn,first,cap,hf,h⟩:=h
     obtain⟨e,t',ds',w',a,b⟩:=adS_ops ops l h
     exact⟨e,t',ds',w',fun call=>by simp only[adops,hw,ho,hr,hf];exact a call,b⟩
   . obtain⟨hd,hk,v,hv,h⟩:=h
     have hd:isDefer o=false:=hd
     have hk:kind o.op=.quiet:=hk
     obtain⟨e,t',ds',w',a,b⟩:=adS_ops ops l h
     have hq:quiet (prg P) t w o=some v:=QV_quiet (o:=o) hv
     refine⟨e,t',ds',w',fun call=>?_,b⟩
     have hop:aop (prg P) call o t w=.ok (putTmp t o.dst v) w:=by simp only[aop,hk,hq]
     unfold adops
     simp only[hw]
     split
     . rename_i f args tys ho;simp[isDefer,ho]at hd
     . rename_i x ho;simp[isDefer,ho]at hd
     . simp only[hop];exact a call
theorem codeT_defer {env:Env} {id:Nat} {ops:Array Oper} {l:List SOp} {t:Tmps} {ds:List DI} {w:AW} {Q:Post} (hd:hasDefer ops.toList=true) (hl:(ops.toList.map fun o=>(⟨bare o,guardOf ops o,false⟩:SOp))=l) (h:AdS P env l t ds w Q):CodeT P told env (.region id ops false) t ds w Q:=by
 subst hl
 obtain⟨e,t',ds',w',a,b⟩:=adS_ops ops ops.toList h
 exact ⟨1,e,t',ds',w',fun F n m hF hn hm=>by
  obtain⟨m,rfl⟩:∃ k,m=k+1:=⟨m - 1,by omega⟩
  simp only[acode,hd];exact a _,b⟩
end
def dfOf:Code->Option (Nat × Array Oper)
 | .region id ops _=>match hasDefer ops.toList with
  | true=>some (id,ops)
  | false=>none
 | .seq a b=>match dfOf a with
  | some x=>some x
  | none=>dfOf b
 | .cond _ a b=>match dfOf a with
  | some x=>some x
  | none=>dfOf b
 | .block _ b=>dfOf b
 | .loop b=>dfOf b
 | .scope b=>dfOf b
 | _=>none
def dfOps (f:Func):Array Oper:=match f.body with
 | some c=>match dfOf c with
  | some (_,ops)=>ops
  | none=>#[]
 | none=>#[]
attribute [go_sem] CodeX SeqXR panQ CallXR_func PanR_iface stepX_move stepX_assign stepX_pick stepX_bin stepX_un stepX_load stepX_fieldAddr stepX_indexAddr stepX_build stepX_nilCheck stepX_alloc stepX_box stepX_store stepX_makeMap stepX_mapUpdate stepX_lookup stepX_iface stepX_call stepX_panic LeftX_normal LeftX_pan
end Go.Sim
