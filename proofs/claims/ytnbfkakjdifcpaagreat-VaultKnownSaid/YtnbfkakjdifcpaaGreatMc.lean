/- The abstract machine, part 4: its code read once, for the kernel; what it is told. -/
import Derived.Test.YtnbfkakjdifcpaaGreatMa
import Derived.Test.YtnbfkakjdifcpaaGreatMd
import Derived.Shelf.Strings.OnBuilder
import Derived.Lib.Bytealg
import Derived.Laws.Externs
set_option linter.unusedVariables false
set_option linter.unusedSimpArgs false
namespace Go.Sim
open Go
noncomputable section
def getR {α:Type} (p:List Bool):Trie α->Option α :=
 List.rec (motive:=fun _=>Trie α->Option α)
  (fun t=>Trie.rec (motive:=fun _=>Option α) none (fun v _ _ _ _=>v) t)
  (fun d _ ih t=>Trie.rec (motive:=fun _=>Option α) none (fun _ l r _ _=>Bool.rec (motive:=fun _=>Option α) (ih r) (ih l) d) t) p
def setR {α:Type} (x:α) (p:List Bool):Trie α->Trie α :=
 List.rec (motive:=fun _=>Trie α->Trie α)
  (fun t=>Trie.rec (motive:=fun _=>Trie α) (.node (some x) .leaf .leaf) (fun _ l r _ _=>.node (some x) l r) t)
  (fun d _ ih t=>Bool.rec (motive:=fun _=>Trie α)
    (Trie.rec (motive:=fun _=>Trie α) (.node none .leaf (ih .leaf)) (fun v l r _ _=>.node v l (ih r)) t)
    (Trie.rec (motive:=fun _=>Trie α) (.node none (ih .leaf) .leaf) (fun v l r _ _=>.node v (ih l) r) t) d) p
theorem getR_eq {α:Type}:∀ (p:List Bool) (t:Trie α),getR p t=Trie.getP p t
 | [],t=>by cases t <;> rfl
 | d :: p,t=>by
  cases t with
  | leaf=>rfl
  | node v l r=>cases d with
   | false=>exact getR_eq p r
   | true=>exact getR_eq p l
theorem setR_eq {α:Type} (x:α):∀ (p:List Bool) (t:Trie α),setR x p t=Trie.setP x p t
 | [],t=>by cases t <;> rfl
 | d :: p,t=>by
  cases t with
  | leaf=>cases d with
   | false=>show Trie.node none .leaf (setR x p .leaf)=_;rw[setR_eq x p];rfl
   | true=>show Trie.node none (setR x p .leaf) .leaf=_;rw[setR_eq x p];rfl
  | node v l r=>cases d with
   | false=>show Trie.node v l (setR x p r)=_;rw[setR_eq x p];rfl
   | true=>show Trie.node v (setR x p l) r=_;rw[setR_eq x p];rfl
inductive X where
 | tmp (p:List Bool)
 | val (v:Value)
def xOf:Operand->X
 | .tmp i=>.tmp (Trie.way i)
 | .const v=>.val v
 | .global g=>.val (.pointer (some ⟨g,0,none⟩))
 | .func f=>.val (.func (.func f) #[] #[])
def xev (t:Tmps) (x:X):Value :=
 X.rec (motive:=fun _=>Value) (fun p=>Option.rec (motive:=fun _=>Value) undef (fun v=>v) (getR p t)) (fun v=>v) x
theorem xev_of (t:Tmps) (o:Operand):xev t (xOf o)=ev t o:=by
 cases o with
 | tmp i =>
  simp only[xOf,xev,ev,Trie.get,getR_eq]
  cases Trie.getP (Trie.way i) t <;> rfl
 | const v=>rfl
 | global g=>rfl
 | func f=>rfl
abbrev D:=Option (List Bool)
def dOf:Option Tmp->D
 | some d=>some (Trie.way d)
 | none=>none
def xput (t:Tmps) (d:D) (v:Value):Tmps:=Option.rec (motive:=fun _=>Tmps) t (fun p=>setR v p t) d
theorem xput_of (t:Tmps) (d:Option Tmp) (v:Value):xput t (dOf d) v=putTmp t d v:=by
 cases d with
 | none=>rfl
 | some d=>exact setR_eq v _ t
abbrev CallL:=Target->List Value->AW->CR
def toF (call:CallL):CallF:=fun t a w=>call t a.toList w
inductive C where
 | move (x:X)
 | un (f:Value->Option Value) (x:X)
 | bin (f:Value->Value->Option Value) (x y:X)
 | look (f:AW->Value->Option Value) (x:X)
 | pick (c a b:X)
 | store (f:AW->Value->Value->Option AW) (a x:X)
 | call (f:X) (args:List X)
 | alloc (cells:List Value) (e:TypeId)
 | other
def iBin (f:IntKind->Int->Int->Value) (x y:Value):Option Value :=
 match x with
 | .int k a=>match y with
  | .int k' b=>match sameKind k k' with
   | true=>some (f k a b)
   | false=>none
  | _=>none
 | _=>none
def eBin (f:Bool->Bool) (x y:Value):Option Value :=
 match x with
 | .int k a=>match y with
  | .int k' b=>match sameKind k k' with
   | true=>some (.bool (f (intEq a b)))
   | false=>none
  | _=>none
 | .string a=>match y with
  | .string b=>some (.bool (f (bytesEq a.data.toList b.data.toList)))
  | _=>none
 | _=>none
def bOf:BinOp->Option (Value->Value->Option Value)
 | .lss=>some (iBin fun _ a b=>.bool (intLt a b))
 | .leq=>some (iBin fun _ a b=>.bool (!intLt b a))
 | .gtr=>some (iBin fun _ a b=>.bool (intLt b a))
 | .geq=>some (iBin fun _ a b=>.bool (!intLt a b))
 | .add=>some (iBin fun k a b=>.int k (small k (a+b)))
 | .sub=>some (iBin fun k a b=>.int k (small k (a - b)))
 | .eql=>some (eBin fun b=>b)
 | .neq=>some (eBin fun b=>!b)
 | _=>none
def loadA (n:Nat) (w:AW) (a:Value):Option Value :=
 match a with
 | .pointer (some ⟨b,o,none⟩)=>match aCells w b o n with
  | some l=>some (.agg l.toArray)
  | none=>none
 | _=>none
def load1 (w:AW) (a:Value):Option Value :=
 match a with
 | .pointer (some ⟨b,o,none⟩)=>w.cell? ⟨b,o,none⟩
 | _=>none
def addOff (n:Nat) (a:Value):Option Value :=
 match a with
 | .pointer (some ⟨b,o,none⟩)=>some (.pointer (some ⟨b,o+n,none⟩))
 | _=>none
def partA (agg:Bool) (z off:Nat) (x:Value):Option Value :=
 match x with
 | .agg cs=>partV agg z cs off
 | _=>none
def checked (x:Value):Option Value :=
 match x with
 | .pointer (some a)=>some (.pointer (some a))
 | _=>none
def storeA (n:Nat) (w:AW) (a x:Value):Option AW :=
 match a with
 | .pointer (some ⟨b,o,none⟩)=>match x with
  | .agg cs=>match Nat.beq cs.size n with
   | true=>aStores b o cs.toList w
   | false=>none
  | _=>none
 | _=>none
def store1 (w:AW) (a x:Value):Option AW :=
 match a with
 | .pointer (some ⟨b,o,none⟩)=>w.store ⟨b,o,none⟩ x
 | _=>none
def cOf (g:Prg) (o:Oper):C :=
 match o.op with
 | .move x|.assign x=>.move (xOf x)
 | .pick c a b=>.pick (xOf c) (xOf a) (xOf b)
 | .binOp op _ x y _=>match bOf op with
  | some f=>.bin f (xOf x) (xOf y)
  | none=>.other
 | .load ty a=>match g.ty ty with
  | some ⟨true,_,n,_,_⟩=>.look (loadA n) (xOf a)
  | some ⟨false,_,_,_,_⟩=>.look load1 (xOf a)
  | none=>.other
 | .indexAddr ty x i=>match g.ty ty with
  | some ⟨_,.slice e,_,_,_⟩=>match g.ty e with
   | some ⟨_,_,z,_,_⟩=>.bin (indexV z) (xOf x) (xOf i)
   | none=>.other
  | _=>.other
 | .call ⟨.builtin .len,args,tys⟩=>match args.toList,tys.toList with
  | [x],[ty]=>match g.ty ty with
   | some ⟨_,.slice _,_,_,_⟩=>.un lenV (xOf x)
   | _=>.other
  | _,_=>.other
 | .extract x i=>.un (extractV i) (xOf x)
 | .nilCheck x=>.un checked (xOf x)
 | .fieldAddr s x f=>match g.ty s with
  | some ⟨_,.struct fields,_,_,_⟩=>match getL fields.toList f with
   | some fd=>match g.ty fd.type with
    | some ⟨_,_,z,_,_⟩=>match Nat.beq z 0 with
     | true=>.other
     | false=>.un (addOff fd.offset) (xOf x)
    | none=>.other
   | none=>.other
  | _=>.other
 | .field s x f=>match g.ty s with
  | some ⟨_,.struct fields,_,_,_⟩=>match getL fields.toList f with
   | some fd=>match g.ty fd.type with
    | some ⟨agg,_,z,_,_⟩=>.un (partA agg z fd.offset) (xOf x)
    | none=>.other
   | none=>.other
  | _=>.other
 | .store ty a x=>match g.ty ty with
  | some ⟨true,_,n,_,_⟩=>.store (storeA n) (xOf a) (xOf x)
  | some ⟨false,_,1,_,_⟩=>.store store1 (xOf a) (xOf x)
  | _=>.other
 | .alloc e=>match g.ty e with
  | some i=>.alloc i.zero.cells.toList e
  | none=>.other
 | .call ⟨.value f,args,_⟩=>.call (xOf f) (args.toList.map xOf)
 | _=>.other
def looked (d:D) (t:Tmps) (w:AW) (whole:OR) (r:Option Value):OR :=
 Option.rec (motive:=fun _=>OR) whole (fun v=>.ok (xput t d v) w) r
def stored (d:D) (t:Tmps) (whole:OR) (r:Option AW):OR :=
 Option.rec (motive:=fun _=>OR) whole (fun w=>.ok (xput t d undef) w) r
def cameX (d:D) (t:Tmps) (r:CR):OR :=
 CR.rec (motive:=fun _=>OR) (fun v w=>.ok (xput t d v) w) (fun v w=>.pan v t w) (fun y=>.fail y) r
def callV (call:CallL) (w:AW) (args:List Value) (f:Value):CR :=
 match f with
 | .func fn first captured=>call (.fn fn captured) (first.toList++args) w
 | _=>.fail "call"
def made (d:D) (t:Tmps) (w:AW) (cells:List Value) (e:TypeId):OR :=
 match w.full with
 | false=>.ok (xput t d (.pointer (some ⟨w.next,0,none⟩))) (w.push (.cells cells e w.next 0 0))
 | true=>.fail "room"
def xop (g:Prg) (call:CallL) (o:Oper) (d:D) (t:Tmps) (w:AW) (c:C):OR :=
 C.rec (motive:=fun _=>OR)
  (fun x=>.ok (xput t d (xev t x)) w)
  (fun f x=>looked d t w (aop g (toF call) o t w) (f (xev t x)))
  (fun f x y=>looked d t w (aop g (toF call) o t w) (f (xev t x) (xev t y)))
  (fun f x=>looked d t w (aop g (toF call) o t w) (f w (xev t x)))
  (fun c a b=>looked d t w (aop g (toF call) o t w) (pickV (xev t c) (xev t a) (xev t b)))
  (fun f a x=>stored d t (aop g (toF call) o t w) (f w (xev t a) (xev t x)))
  (fun f args=>cameX d t (callV call w (args.map (xev t)) (xev t f)))
  (fun cells e=>made d t w cells e)
  (aop g (toF call) o t w) c
inductive XO where
 | always (d:D) (c:C) (o:Oper)
 | guarded (j:D) (want:Bool) (d:D) (c:C) (o:Oper)
def xoOf (g:Prg) (ops:Array Oper) (o:Oper):XO :=
 match o.guard with
 | none=>.always (dOf o.dst) (cOf g o) o
 | some (j,want)=>.guarded (dOf ((ops[j]?).bind (·.dst))) want (dOf o.dst) (cOf g o) o
def xwanted (t:Tmps) (j:D) (want:Bool):Bool :=
 match j with
 | some p=>match getR p t with
  | some (.bool true)=>want
  | some (.bool false)=>!want
  | _=>false
 | none=>false
def orThen (next:Tmps->AW->OR) (r:OR):OR :=
 OR.rec (motive:=fun _=>OR) (fun t w=>next t w) (fun v t w=>.pan v t w) (fun y=>.fail y) r
def xops (g:Prg) (call:CallL) (l:List XO):Tmps->AW->OR :=
 List.rec (motive:=fun _=>Tmps->AW->OR) (fun t w=>.ok t w)
  (fun q _ ih t w=>XO.rec (motive:=fun _=>OR)
    (fun d c o=>orThen ih (xop g call o d t w c))
    (fun j want d c o=>Bool.rec (motive:=fun _=>OR) (ih (xput t d undef) w) (orThen ih (xop g call o d t w c)) (xwanted t j want)) q) l
inductive XC where
 | skip
 | ops (l:List XO)
 | draws (ops:Array Oper)
 | seq (a b:XC)
 | cond (c:X) (a b:XC)
 | block (id:Nat) (b:XC)
 | loop (b:XC)
 | scope (b:XC)
 | rangeFunc (f:Operand) (params:Array Tmp) (assign body:Code)
 | exit (id:Nat)
 | ret
 | fail (why:String)
 | defers (ops:Array Oper) (draw:Bool)
def xcOf (g:Prg):Code->XC
 | .skip|.label _=>.skip
 | .region _ ops draw=>match hasDefer ops.toList with
  | true=>.defers ops draw
  | false=>match draw with
   | false=>.ops (ops.toList.map (xoOf g ops))
   | true=>.draws ops
 | .seq a b=>.seq (xcOf g a) (xcOf g b)
 | .cond c a b=>.cond (xOf c) (xcOf g a) (xcOf g b)
 | .block id b=>.block id (xcOf g b)
 | .loop b=>.loop (xcOf g b)
 | .scope b=>.scope (xcOf g b)
 | .exit id=>.exit id
 | .ret=>.ret
 | .goto _=>.fail "goto"
 | .refuse y=>.fail y
 | .rangeFunc f params assign body=>.rangeFunc f params assign body
def ofOR (ds:List DI) (r:OR):XR:=OR.rec (motive:=fun _=>XR) (fun t w=>.go .normal t ds w) (fun v t w=>.go (.pan v) t ds w) (fun y=>.fail y) r
def thenX (next:Tmps->List DI->AW->XR) (r:XR):XR :=
 XR.rec (motive:=fun _=>XR) (fun e t ds w=>Ex.rec (motive:=fun _=>XR) (next t ds w) (fun id=>.go (.exit id) t ds w) (.go .ret t ds w) (fun v=>.go (.pan v) t ds w) e) (fun y=>.fail y) r
def blockX (id:Nat) (r:XR):XR :=
 match r with
 | .go (.exit id') t ds w=>match Nat.beq id' id with
  | true=>.go .normal t ds w
  | false=>.go (.exit id') t ds w
 | r=>r
def condX (a b:XR) (v:Value):XR :=
 match v with
 | .bool true=>a
 | .bool false=>b
 | _=>.fail "cond"
def xcode (g:Prg) (call:CallL) (env:Env) (n:Nat):XC->Tmps->List DI->AW->XR :=
 Nat.rec (motive:=fun _=>XC->Tmps->List DI->AW->XR) (fun _ _ _ _=>.fail "fuel")
  (fun _ ih c t ds w=>XC.casesOn (motive:=fun _=>XR) c
    (.go .normal t ds w)
    (fun l=>ofOR ds (xops g call l t w))
    (fun ops=>ofOR ds (aregion g (toF call) ops true t w))
    (fun a b=>thenX (ih b) (ih a t ds w))
    (fun c a b=>condX (ih a t ds w) (ih b t ds w) (xev t c))
    (fun id b=>blockX id (ih b t ds w))
    (fun b=>thenX (ih c) (ih b t ds w))
    (fun b=>ih b t ds w)
    (fun f params assign body=>aloop (toF call) env f params assign body t ds w)
    (fun id=>.go (.exit id) t ds w)
    (.go .ret t ds w)
    (fun y=>.fail y)
    (fun ops draw=>match draw with
      | false=>adops g (toF call) env ops ops.toList t ds w
      | true=>.fail "defer")) n
structure XF where
 ntmps:Nat
 results:List ResultVar
 body:Option XC
def xfOf (g:Prg) (f:Func):XF:=⟨f.ntmps,f.results.toList,match f.body with|some c=>some (xcOf g c)|none=>none⟩
def xsOf (g:Prg):Trie XF:=fillFrom 0 (g.p.funcs.toList.map (xfOf g)) .leaf
def xenter (g:Prg) (xs:Trie XF) (F:Nat) (call:CallL) (f:FuncId) (args:List Value) (w:AW):CR :=
 match xs.get f with
 | none=>.fail "no function"
 | some ⟨ntmps,results,body⟩ =>
  match body with
  | none=>.fail "no body"
  | some c =>
   match Nat.ble args.length ntmps with
   | true=>left g (adeferred g F (toF call)) results (xcode g call { fn:=f,round:=none } F c (fillFrom 0 args .leaf) [] w)
   | false=>.fail "arguments"
def xroundBody (g:Prg) (F:Nat) (call:CallL) (l:Nat) (f:FuncId) (body:Code):XR->CR
 | .go .normal t ds w =>
  match w.blk l with
  | some (.loop ⟨.ready,pending,f1,t1,p,a,b,d⟩) =>
   doneWith l (xcode g call { fn:=f,round:=some l } F (xcOf g body) t ds (w.put l (.loop ⟨.busy,pending,f1,t1,p,a,b,d⟩)))
  | _=>.fail "beginRound"
 | .go ..=>.fail "assign"
 | .fail y=>.fail y
def xround (g:Prg) (F:Nat) (call:CallL) (l:Nat) (args:List Value) (w:AW):CR :=
 match w.blk l with
 | some (.loop ⟨_,_,f,t,params,assign,body,_⟩) =>
  match Nat.beq args.length params.size with
  | false=>.fail "round"
  | true=>guardPan g f (xroundBody g F call l f body (xcode g call { fn:=f,round:=some l } F (xcOf g assign) (putAll t (params.toList.zip args)) [] w))
 | _=>.fail "round: no loop"
def xcall (g:Prg) (xs:Trie XF) (told:ToldF) (F n:Nat):CallL :=
 Nat.rec (motive:=fun _=>CallL) (fun _ _ _=>.fail "depth")
  (fun _ ih t args w =>
    match t with
    | .fn (.func f) captured =>
     match told f (args++captured.toList).toArray w with
     | some (v,w)=>.ret v w
     | none=>match Nat.blt f 16777215 with
      | true=>xenter g xs F ih f (args++captured.toList) w
      | false=>.fail "no function"
    | .fn (.yield l) _=>xround g F ih l args w
    | _=>.fail "target") n
end
variable {F:Nat}
variable {g:Prg}
theorem bOf_eq {op:BinOp} {f:Value->Value->Option Value} {x y v:Value} (h:bOf op=some f) (hv:f x y=some v):binV op x y=some v:=by
 cases op <;> simp only[bOf,Option.some.injEq,reduceCtorEq]at h <;> subst h <;> cases x <;> cases y <;>
  first
   | (simp only[iBin,eBin,reduceCtorEq]at hv;done)
   | (simp only[iBin,eBin]at hv
      simp only[binV]
      rename_i k a k' b
      generalize sameKind k k'=q at hv ⊢
      cases q <;> simp_all;done)
   | (simp only[iBin,eBin]at hv
      simp only[binV]
      exact hv)
section
variable {call:CallL} {o:Oper} {t:Tmps} {w:AW}
theorem looked_eq (hk:kind o.op=.quiet) {r:Option Value} (h:∀ v,r=some v->fast g t w o.op=some v) :
    looked (dOf o.dst) t w (aop g (toF call) o t w) r=aop g (toF call) o t w:=by
 cases r with
 | none=>rfl
 | some v =>
  show OR.ok (xput t (dOf o.dst) v) w=_
  simp only[aop,hk,quiet,h v rfl,xput_of]
theorem stored_eq {agg:Bool} {n:Nat} {ty:TypeId} {a x:Operand} {u:TypeDesc} {y:Nat} {z:Value} (ho:o.op=.store ty a x) (hty:g.ty ty=some ⟨agg,u,n,y,z⟩) {r:Option AW} (h:∀ w1,r=some w1->storeV w agg n (ev t a) (ev t x)=some w1) :
    stored (dOf o.dst) t (aop g (toF call) o t w) r=aop g (toF call) o t w:=by
 cases r with
 | none=>rfl
 | some w1 =>
  show OR.ok (xput t (dOf o.dst) undef) w1=_
  simp only[aop,ho,kind,effect,hty,wrote,h w1 rfl,xput_of]
theorem xop_eq:xop g call o (dOf o.dst) t w (cOf g o)=aop g (toF call) o t w:=by
 unfold cOf
 split
 . rename_i x h;show OR.ok _ _=_;simp only[aop,h,kind,quiet,fast,xput_of,xev_of]
 . rename_i x h;show OR.ok _ _=_;simp only[aop,h,kind,quiet,fast,xput_of,xev_of]
 . rename_i c a b h
   show looked _ _ _ _ (pickV (xev t (xOf c)) (xev t (xOf a)) (xev t (xOf b)))=_
   refine looked_eq (by rw[h];rfl) fun v hv=>?_
   rw[h];simpa only[fast,xev_of] using hv
 · rename_i op ty x y p h
   split
   . rename_i f hf
     show looked _ _ _ _ (f (xev t (xOf x)) (xev t (xOf y)))=_
     refine looked_eq (by rw[h];rfl) fun v hv=>?_
     rw[xev_of,xev_of]at hv
     rw[h];simp only[fast,bOf_eq hf hv]
   . rfl
 · rename_i ty a h
   split
   . rename_i u n y z hty
     show looked _ _ _ _ (loadA n w (xev t (xOf a)))=_
     refine looked_eq (by rw[h];rfl) fun v hv=>?_
     rw[h];simp only[fast,hty]
     rw[xev_of]at hv;exact hv
   . rename_i u n y z hty
     show looked _ _ _ _ (load1 w (xev t (xOf a)))=_
     refine looked_eq (by rw[h];rfl) fun v hv=>?_
     rw[h];simp only[fast,hty]
     rw[xev_of]at hv;exact hv
   . rfl
 · rename_i ty x i h
   split
   · rename_i e _ _ _ hty
     split
     . rename_i z _ _ he
       show looked _ _ _ _ (indexV z (xev t (xOf x)) (xev t (xOf i)))=_
       refine looked_eq (by rw[h];rfl) fun v hv=>?_
       rw[h];simp only[fast,hty,he]
       rw[xev_of,xev_of]at hv;exact hv
     . rfl
   . rfl
 · rename_i args tys h
   split
   · rename_i x ty ha ht
     split
     . rename_i e _ _ _ hty
       show looked _ _ _ _ (lenV (xev t (xOf x)))=_
       refine looked_eq (by rw[h];rfl) fun v hv=>?_
       rw[h];simp only[fast,ha,ht,hty]
       rw[xev_of]at hv;exact hv
     . rfl
   . rfl
 . rename_i x i h
   show looked _ _ _ _ (extractV i (xev t (xOf x)))=_
   refine looked_eq (by rw[h];rfl) fun v hv=>?_
   rw[h];rw[xev_of]at hv;exact hv
 . rename_i x h
   show looked _ _ _ _ (checked (xev t (xOf x)))=_
   refine looked_eq (by rw[h];rfl) fun v hv=>?_
   rw[h];rw[xev_of]at hv;exact hv
 · rename_i s x f h
   split
   · rename_i fields _ _ _ hty
     split
     · rename_i fd hfd
       split
       · rename_i z _ _ hz
         split
         . rfl
         . rename_i hz0
           show looked _ _ _ _ (addOff fd.offset (xev t (xOf x)))=_
           refine looked_eq (by rw[h];rfl) fun v hv=>?_
           rw[h];rw[xev_of]at hv
           simp only[fast,hty]
           unfold addOff at hv
           split at hv
           . rename_i hx;rw[hx];simp only[hfd,hz,hz0];exact hv
           . cases hv
       . rfl
     . rfl
   . rfl
 · rename_i s x f h
   split
   · rename_i fields _ _ _ hty
     split
     · rename_i fd hfd
       split
       . rename_i agg _ z _ _ hz
         show looked _ _ _ _ (partA agg z fd.offset (xev t (xOf x)))=_
         refine looked_eq (by rw[h];rfl) fun v hv=>?_
         rw[h];rw[xev_of]at hv
         simp only[fast,hty]
         unfold partA at hv
         split at hv
         . rename_i hx;rw[hx];simp only[hfd,hz];exact hv
         . cases hv
       . rfl
     . rfl
   . rfl
 · rename_i ty a x h
   split
   . rename_i u n y z hty
     show stored _ _ _ (storeA n w (xev t (xOf a)) (xev t (xOf x)))=_
     refine stored_eq h hty fun w1 hw=>?_
     rw[xev_of,xev_of]at hw
     unfold storeA at hw
     unfold storeV
     exact hw
   · rename_i u y z hty
     show stored _ _ _ (store1 w (xev t (xOf a)) (xev t (xOf x)))=_
     refine stored_eq h hty fun w1 hw=>?_
     rw[xev_of,xev_of]at hw
     unfold store1 at hw
     unfold storeV
     split at hw
     · rename_i b q hb
       rw[hb]
       simp only
       have h1:oneCell (ev t x)=true:=by
        unfold AW.store at hw
        split at hw
        . cases hw
        . assumption
       rw[h1];exact hw
     . cases hw
   . rfl
 · rename_i e h
   split
   . rename_i i hi
     show made _ _ _ _ _=_
     simp only[aop,h,kind,makes,hi,made,xput_of]
     rfl
   . rfl
 · rename_i f args tys h
   show cameX _ _ (callV call w ((args.toList.map xOf).map (xev t)) (xev t (xOf f)))=_
   simp only[aop,h,kind,effect,xev_of,callV]
   split
   · rename_i fn first captured hf
     have e:(first++args.map (ev t)).toList=first.toList++(args.toList.map xOf).map (xev t):=by
      simp[xev_of,Function.comp_def]
     simp only[toF]
     rw[hf]
     simp only[e]
     generalize call _ _ _=r
     cases r with
     | ret v w1=>show OR.ok _ _=_;simp only[came,xput_of]
     | pan v w1=>rfl
     | fail y=>rfl
   . rename_i hf
     have:∀ (z:Value) (k:Value->Array Value->Array Value->OR) ,True:=fun _ _=>trivial
     show OR.fail _=_
     split
     . rename_i fn first captured hff;exact absurd hff (hf fn first captured)
     . rfl
 . rfl
end
theorem xwanted_eq (ops:Array Oper) {o:Oper} {t:Tmps} {j:Nat} {want:Bool} (h:o.guard=some (j,want)) :
    xwanted t (dOf ((ops[j]?).bind (·.dst))) want=wantedA ops o t:=by
 unfold wantedA
 rw[h]
 simp only[yieldedA]
 cases (ops[j]?).bind (·.dst) with
 | none=>rfl
 | some d =>
  simp only[dOf,xwanted,getR_eq,Trie.get]
  generalize Trie.getP (Trie.way d) t=r
  rcases r with _|v
  . rfl
  . cases v <;> try rfl
    rename_i b;cases b <;> cases want <;> rfl
theorem xops_eq (call:CallL) (ops:Array Oper):∀ (l:List Oper) (t:Tmps) (w:AW),xops g call (l.map (xoOf g ops)) t w=aops g (toF call) ops l t w
 | [],t,w=>rfl
 | o :: l,t,w=>by
  have ih:=xops_eq call ops l
  have step:orThen (xops g call (l.map (xoOf g ops))) (xop g call o (dOf o.dst) t w (cOf g o))=(match aop g (toF call) o t w with|.ok t w=>aops g (toF call) ops l t w|r=>r):=by
   rw[xop_eq]
   generalize aop g (toF call) o t w=r
   cases r with
   | ok t w=>exact ih t w
   | pan v t w=>rfl
   | fail y=>rfl
  simp only[aops]
  cases hg:o.guard with
  | none =>
   have e:xops g call ((o :: l).map (xoOf g ops)) t w=orThen (xops g call (l.map (xoOf g ops))) (xop g call o (dOf o.dst) t w (cOf g o)):=by
    simp only[List.map_cons,xoOf,hg];rfl
   rw[e,step]
   simp only[wantedA,hg]
   rfl
  | some p =>
   obtain⟨j,want⟩:=p
   have e:xops g call ((o :: l).map (xoOf g ops)) t w=Bool.rec (motive:=fun _=>OR) (xops g call (l.map (xoOf g ops)) (xput t (dOf o.dst) undef) w) (orThen (xops g call (l.map (xoOf g ops))) (xop g call o (dOf o.dst) t w (cOf g o))) (xwanted t (dOf ((ops[j]?).bind (·.dst))) want):=by
    simp only[List.map_cons,xoOf,hg];rfl
   rw[e,step,xwanted_eq ops hg,xput_of,ih]
   cases wantedA ops o t <;> rfl
theorem xcode_eq (call:CallL) (env:Env):∀ (n:Nat) (c:Code) (t:Tmps) (ds:List DI) (w:AW),xcode g call env n (xcOf g c) t ds w=acode g (toF call) env n c t ds w
 | 0,c,t,ds,w=>rfl
 | n + 1,c,t,ds,w=>by
  have ih:=xcode_eq call env n
  cases c with
  | skip=>rfl
  | label l=>rfl
  | region p ops draw =>
   cases hdf:hasDefer ops.toList with
   | true =>
    have e:xcOf g (.region p ops draw)=.defers ops draw:=by simp only[xcOf,hdf]
    rw[e]
    simp only[acode,hdf]
    rfl
   | false =>
   cases draw with
   | false =>
    have e:xcOf g (.region p ops false)=.ops (ops.toList.map (xoOf g ops)):=by simp only[xcOf,hdf]
    rw[e]
    show ofOR ds (xops g call (ops.toList.map (xoOf g ops)) t w)=_
    rw[xops_eq]
    simp only[acode,aregion,hdf]
    generalize aops g (toF call) ops ops.toList t w=r
    cases r <;> rfl
   | true =>
    have e:xcOf g (.region p ops true)=.draws ops:=by simp only[xcOf,hdf]
    rw[e]
    show ofOR ds (aregion g (toF call) ops true t w)=_
    simp only[acode,hdf]
    generalize aregion g (toF call) ops true t w=r
    cases r <;> rfl
  | seq a b =>
   show thenX (xcode g call env n (xcOf g b)) (xcode g call env n (xcOf g a) t ds w)=_
   rw[ih]
   simp only[acode]
   generalize acode g (toF call) env n a t ds w=r
   rcases r with ⟨e,t1,ds1,w1⟩|y
   . cases e with
     | normal=>exact ih b t1 ds1 w1
     | exit id=>rfl
     | ret=>rfl
     | pan v=>rfl
   . rfl
  | cond c a b =>
   show condX (xcode g call env n (xcOf g a) t ds w) (xcode g call env n (xcOf g b) t ds w) (xev t (xOf c))=_
   rw[ih,ih,xev_of]
   simp only[acode,condX]
   rfl
  | block id b =>
   show blockX id (xcode g call env n (xcOf g b) t ds w)=_
   rw[ih]
   simp only[acode,blockX]
   rfl
  | loop b =>
   show thenX (xcode g call env n (xcOf g (.loop b))) (xcode g call env n (xcOf g b) t ds w)=_
   rw[ih]
   simp only[acode]
   generalize acode g (toF call) env n b t ds w=r
   rcases r with ⟨e,t1,ds1,w1⟩|y
   . cases e with
     | normal=>exact ih (.loop b) t1 ds1 w1
     | exit id=>rfl
     | ret=>rfl
     | pan v=>rfl
   . rfl
  | scope b=>exact ih b t ds w
  | exit id=>rfl
  | ret=>rfl
  | goto l=>rfl
  | refuse y=>rfl
  | rangeFunc f params assign body=>rfl
theorem xenter_eq {P:Program} (hP:Trie.In P.funcs.size) (call:CallL) {f:FuncId} (hf:Nat.blt f 16777215=true) (args:List Value) (w:AW) :
    xenter (prg P) (xsOf (prg P)) F call f args w=aenter (prg P) F (toF call) f args.toArray w:=by
 have hlt:Trie.In f:=Trie.in_ _
 have e1:(xsOf (prg P)).get f=((prg P).fn f).map (xfOf (prg P)):=by
  simp only[xsOf,Prg.fn,hf,prg]
  rw[Trie.fillFrom_get _ _ _ _ (by simpa using hP) hlt,Trie.fillFrom_get _ _ _ _ (by simpa using hP) hlt]
  simp only[Nat.zero_le,true_and,Nat.zero_add,Nat.sub_zero,List.length_map,List.getElem?_map,Trie.get_leaf]
  split
  . rfl
  . rfl
 unfold xenter aenter
 rw[e1]
 cases (prg P).fn f with
 | none=>rfl
 | some fn =>
  simp only[Option.map,xfOf]
  cases fn.body with
  | none=>rfl
  | some c =>
   simp only[List.size_toArray]
   cases Nat.ble args.length fn.ntmps with
   | false=>rfl
   | true=>simp only[xcode_eq]
theorem xround_eq (call:CallL) (l:Nat) (args:List Value) (w:AW):xround g F call l args w=around g F (toF call) l args.toArray w:=by
 have body:∀ f b r,xroundBody g F call l f b r=roundBody g F (toF call) l f b r:=by
  intro f b r
  unfold xroundBody roundBody
  simp only[xcode_eq]
  rfl
 unfold xround around
 simp only[List.size_toArray,xcode_eq,body]
 rfl
theorem xcall_eq {P:Program} (hP:Trie.In P.funcs.size) (told:ToldF):∀ (n:Nat) (t:Target) (args:List Value) (w:AW),xcall (prg P) (xsOf (prg P)) told F n t args w=acall (prg P) told F n t args.toArray w
 | 0,t,args,w=>rfl
 | n + 1, t,args,w=>by
  have ih:toF (xcall (prg P) (xsOf (prg P)) told F n)=acall (prg P) told F n:=by
   funext t a w
   show xcall (prg P) (xsOf (prg P)) told F n t a.toList w=_
   rw[xcall_eq hP told n]
  have e0:xcall (prg P) (xsOf (prg P)) told F (n+1) t args w=(match t with
   | .fn (.func f) captured =>
    match told f (args++captured.toList).toArray w with
    | some (v,w)=>.ret v w
    | none=>match Nat.blt f 16777215 with
     | true=>xenter (prg P) (xsOf (prg P)) F (xcall (prg P) (xsOf (prg P)) told F n) f (args++captured.toList) w
     | false=>.fail "no function"
   | .fn (.yield l) _=>xround (prg P) F (xcall (prg P) (xsOf (prg P)) told F n) l args w
   | _=>.fail "target"):=rfl
  rw[e0]
  cases t with
  | fn f captured =>
   cases f with
   | func f =>
    have ea:args.toArray++captured=(args++captured.toList).toArray:=by simp
    simp only[acall,ea]
    cases told f (args++captured.toList).toArray w with
    | some v=>rfl
    | none =>
     simp only
     cases hf:Nat.blt f 16777215 with
     | true=>simp only;rw[xenter_eq hP _ hf,ih]
     | false=>simp only[aenter,Prg.fn,hf]
   | yield l=>simp only[acall];rw[xround_eq,ih]
   | _=>rfl
  | _=>rfl
end Go.Sim

namespace Go.Sim
open Go Go.RowKit
variable {F:Nat}
def isTrue (r:CR):Bool :=
 match r with
 | .ret (.bool true) _=>true
 | _=>false
theorem calls_true {P:Program} (hP:Fit P) (hfol:P.follows .mixedOrders=true) {told:ToldF} (ht:∀ N,ToldOk P N told) {n:Nat} {f:FuncId} (hno:told f #[] .empty=none)
    (h:isTrue (xcall (prg P) (xsOf (prg P)) told F (n+1) (.fn (.func f) #[]) [] .empty)=true) (W:World) :
    Calls P f #[] W fun e W'=>e=.returned (.bool true)/\BelowD W.heap.size W W':=by
 rw[xcall_eq hP.funcs]at h
 unfold isTrue at h
 split at h
 . rename_i w1 hr
   simp only[acall]at hr
   have e:(([]:List Value).toArray++#[]) = #[]:=rfl
   rw[e,hno]at hr
   refine (calls_of hP hfol ht hr W).mono ?_
   rintro e W' ⟨σ,v',rfl,hv,hx⟩
   cases hv
   exact⟨rfl,hx.below⟩
 . cases h
def fitB (P:Program):Bool :=
 P.types.toList.all (fun i=>match i.zero with|some z=>plain 8 z|none=>true) &&
 P.funcs.toList.all (fun fn=>match fn.body with
  | some c=>fitsCode fn.ntmps c && !(decide (fn.name = "runtime.NumGoroutine")) && fn.results.toList.all (fun|.tmp i=>Nat.blt i fn.ntmps|.cell a _=>Nat.blt a fn.ntmps)
  | none=>true)
theorem fit_of {P:Program} (h:fitB P=true):Fit P:=by
 simp only[fitB,Bool.and_eq_true]at h
 obtain⟨h3,h4⟩:=h
 refine⟨Trie.in_ _,Trie.in_ _,fun t info z hlt hi hz=>?_,fun f fn c hf hc=>?_⟩
 . unfold Tables.info? at hi
   rw[if_pos hlt]at hi
   have:=List.all_eq_true.mp h3 info (by rw[Array.getElem?_eq_getElem hlt]at hi;injection hi with hi;rw[<- hi];exact Array.getElem_mem_toList hlt)
   simpa only[hz] using this
 . obtain⟨hlt,rfl⟩:=Array.getElem?_eq_some_iff.mp hf
   have:=List.all_eq_true.mp h4 _ (Array.getElem_mem_toList hlt)
   simp only[hc,Bool.and_eq_true]at this
   obtain⟨⟨b,d⟩,e⟩:=this
   exact⟨Trie.in_ _,b,by simpa using d,e⟩
end Go.Sim

namespace Go.Sim
open Go Go.RowKit Go.Proofs
variable {P:Program} {N:Nat}
theorem BRel.below {σ:Emb} {N:Nat} {W W':World} {x:Loc} {k:Blk} (r:BRel σ W.heap x k) (hl:Lies N x k) (hN:N≤W.heap.size) (b:BelowD W.heap.size W W'):BRel σ W'.heap x k:=by
 by_cases hg:∃ c,k=.given c
 . obtain⟨c,rfl⟩:=hg
   intro i v hi hv
   obtain⟨cc,ce,fr,v',q,a,e⟩:=r i v hi hv
   refine⟨cc,ce,fr,v',?_,a,e⟩
   rcases hl.2 with s|s
   . subst s;simp at hi
   . rw[b.block _ (by omega)];exact q
 . exact r.heap (b.block _ (r.lt fun c e=>hg ⟨c,e⟩))
theorem WRel.aside {σ:Emb} {w:AW} {W W':World} (h:WRel N σ w W) (b:BelowD W.heap.size W W'):Ext N σ w W σ w W':=by
 have rel:WRel N σ w W':={
  wf:=h.wf,lim:=h.lim,inj:=h.inj,fam:=h.fam,root:=h.root,famIn:=h.famIn,famKey:=h.famKey
  dom:=fun i x hi=>let ⟨a,k,d,c,e⟩:=h.dom i x hi;⟨a,k,d,c,e.below c h.old b⟩
  old:=Nat.le_trans h.old b.size }
 exact⟨.refl σ,rel,b.mono h.old,Nat.le_refl _,fun _ _ h=>⟨h,rfl⟩⟩
theorem delivers_calls {f:FuncId} {cap args0:Array Value} {W:World} {v:Value} {Q:World->Prop} (hi:∀ args w,(callFunc f args).run P w=.ok (.enter f args) w)
    (hc:Calls P f (args0++cap) W fun e W'=>e=.returned v/\Q W') (c:Frame) (cs:List Frame):∃ W',Delivers P (.fn (.func f) cap) args0 W c cs v W'/\Q W':=by
 obtain⟨e,W',fr,⟨rfl,q⟩,hs,hf,hl⟩:=hc (c :: cs)
 refine⟨W',?_,q⟩
 have hinv:(invoke (.fn (.func f) cap) args0).run P W=.ok (.enter f (args0++cap)) W:=by
  simp[invoke,hi]
 unfold Delivers
 rw[hinv]
 exact Steps.trans hs (.one (step_leave_returned hl))
def strs:List Value->Option (List ByteArray)
 | []=>some []
 | v :: l=>match v with
  | .string s=>match strs l with
   | some r=>some (s :: r)
   | none=>none
  | _=>none
def lim47:Nat:=140737488355328
def toldJoin (args:List Value) (w:AW):Option Value :=
 match args with
 | [.slice (some ⟨b,o,none⟩) n c,.string sep] =>
  match Nat.ble n c && Nat.ble n lim47 && Nat.ble 1 n with
  | true=>match aCells w b o n with
   | some vs=>match strs vs with
    | some l=>match Nat.ble (Lib.join (l.map (·.data.toList)) sep.data.toList).length lim47 with
     | true=>some (.string ⟨(Lib.join (l.map (·.data.toList)) sep.data.toList).toArray⟩)
     | false=>none
    | none=>none
   | none=>none
  | false=>none
 | _=>none
def toldTrue (fw:FuncId) (told:ToldF):ToldF:=fun f args w =>
 match Nat.beq f fw with
 | true=>match args.toList with
  | []=>some (.bool true,w)
  | _=>none
 | false=>told f args w
theorem toldTrue_ok {fw:FuncId} {told:ToldF} (hi:∀ args w,(callFunc fw args).run P w=.ok (.enter fw args) w) (hw:∀ W,Calls P fw #[] W fun e W'=>e=.returned (.bool true)/\BelowD W.heap.size W W') (h:∀ N,ToldOk P N told) (N:Nat):ToldOk P N (toldTrue fw told):=by
 intro f args w w1 v ht σ W args0 cap c cs hwr ha
 unfold toldTrue at ht
 split at ht
 · rename_i hf
   have hf:f=fw:=Nat.eq_of_beq_eq_true hf
   subst hf
   split at ht
   case h_2=>cases ht
   rename_i hargs
   injection ht with ht;injection ht with h1 h2;subst h1 h2
   have he:args0++cap = #[]:=by
    have l:=ARel.iff.1 ha
    rw[hargs]at l
    generalize hl:(args0++cap).toList=m at l
    cases l
    exact Array.ext' (by simpa using hl)
   obtain⟨W',d1,d2⟩:=delivers_calls hi (by rw[he];exact hw W) c cs
   exact⟨σ,_,W',d1,hwr.aside d2,.bool _⟩
 . exact h N f args w w1 v ht σ W args0 cap c cs hwr ha
end Go.Sim

namespace Go.Sim
open Go Go.RowKit
variable {P:Program} {N:Nat}
end Go.Sim
