/- The abstract machine for calls of a program, part 1: its memory, its operations, and how they are alike to the model's. -/
import GoSem.Step
import Derived.Below
import Derived.Laws.CopyRow
import Derived.Laws.AppendOwn
import Derived.Laws.CopyOwn
import Derived.Laws.Strings
import Derived.Orders
set_option linter.unusedVariables false
set_option linter.unusedSimpArgs false
namespace Go.Sim
open Go
inductive Trie (α:Type) where
 | leaf
 | node (v:Option α) (l r:Trie α)
namespace Trie
variable {α:Type}
def path:Nat->Nat->List Bool
 | 0,_=>[]
 | n + 1,k=>match k with
  | 0=>[]
  | k+1=>match Nat.beq (Nat.mod k 2) 0 with
   | true=>true :: path n (Nat.div k 2)
   | false=>false :: path n (Nat.div k 2)
def getP:List Bool->Trie α->Option α
 | [],t=>match t with
  | .leaf=>none
  | .node v _ _=>v
 | d :: p,t=>match t with
  | .leaf=>none
  | .node _ l r=>match d with
   | true=>getP p l
   | false=>getP p r
def setP (x:α):List Bool->Trie α->Trie α
 | [],t=>match t with
  | .leaf=>.node (some x) .leaf .leaf
  | .node _ l r=>.node (some x) l r
 | d :: p,t=>match t with
  | .leaf=>match d with
   | true=>.node none (setP x p .leaf) .leaf
   | false=>.node none .leaf (setP x p .leaf)
  | .node v l r=>match d with
   | true=>.node v (setP x p l) r
   | false=>.node v l (setP x p r)
def way (k:Nat):List Bool:=path (Nat.succ (Nat.log2 (Nat.succ k))) k
def get (t:Trie α) (k:Nat):Option α:=getP (way k) t
def set (t:Trie α) (k:Nat) (x:α):Trie α:=setP x (way k) t
end Trie
def getL {α:Type}:List α->Nat->Option α
 | [],_=>none
 | x :: l,n=>match n with
  | 0=>some x
  | n+1=>getL l n
def setL {α:Type}:List α->Nat->α->List α
 | [],_,_=>[]
 | x :: l,n,y=>match n with
  | 0=>y :: l
  | n+1=>x :: setL l n y
def fillFrom {α:Type}:Nat->List α->Trie α->Trie α
 | _,[],t=>t
 | i,v :: l,t=>fillFrom (i+1) l (t.set i v)
structure ALoop where
 state:LoopState
 pending:Option Code
 fn:FuncId
 tmps:Trie Value
 params:Array Tmp
 assign:Code
 body:Code
 defers:Nat
inductive Blk where
 | cells (c:List Value) (elem:TypeId) (root base z:Nat)
 | given (c:List Value)
 | map (entries:Array MapEntry) (clock:Nat)
 | loop (l:ALoop)
 | deferred (calls:Option (List Deferred))
structure AW where
 heap:Trie Blk
 fams:Trie (List Nat)
 next:Nat
def AW.empty:AW:=⟨.leaf,.leaf,0⟩
def AW.blk:AW->Nat->Option Blk
 | ⟨h,_,_⟩,b=>h.get b
def AW.put:AW->Nat->Blk->AW
 | ⟨h,f,n⟩,b,x=>⟨h.set b x,f,n⟩
def AW.push:AW->Blk->AW
 | ⟨h,f,n⟩,x=>⟨h.set n x,f,n+1⟩
def AW.family:AW->Nat->List Nat
 | ⟨_,f,_⟩,r=>match f.get r with
  | some l=>l
  | none=>[]
def AW.full:AW->Bool
 | _=>false
def struck:Value:=.tuple #[]
def oneCell:Value->Bool
 | .agg _|.tuple _=>false
 | _=>true
def AW.cell? (w:AW) (a:Addr):Option Value :=
 match a with
 | ⟨b, o,none⟩ =>
  match w.blk b with
  | some (.cells c ..) =>
   match getL c o with
   | some v=>match oneCell v with
    | true=>some v
    | false=>none
   | none=>none
  | some (.given c) =>
   match getL c o with
   | some v=>match oneCell v with
    | true=>some v
    | false=>none
   | none=>none
  | _=>none
 | _=>none
def strike (self cls:Nat) (w:AW) (b:Nat):AW :=
 match Nat.beq b self with
 | true=>w
 | false =>
  match w.blk b with
  | some (.cells c e r base z) =>
   match Nat.ble base cls with
   | true =>
    match getL c (cls - base) with
    | some _=>w.put b (.cells (setL c (cls - base) struck) e r base z)
    | none=>w
   | false=>w
  | _=>w
def strikes (self cls:Nat):List Nat->AW->AW
 | [],w=>w
 | b :: l,w=>strikes self cls l (strike self cls w b)
def AW.store (w:AW) (a:Addr) (v:Value):Option AW :=
 match oneCell v with
 | false=>none
 | true =>
  match a with
  | ⟨b,o,none⟩ =>
   match w.blk b with
   | some (.cells c e r base z) =>
    match getL c o with
    | some _=>some (strikes b (base+o) (w.family r) (w.put b (.cells (setL c o v) e r base z)))
    | none=>none
   | _=>none
  | _=>none
structure TI where
 agg:Bool
 und:TypeDesc
 size:Nat
 bytes:Nat
 zero:Value
def tyOf (p:Program) (t:TypeId):Option TI :=
 match p.info? t,p.underlying t with
 | some i,some d =>
  match i.zero with
  | some z=>some ⟨match d with|.struct _|.array _ _=>true|_=>false,d,i.size,i.bytes,z⟩
  | none=>none
 | _,_=>none
def tysTo (p:Program):Nat->Trie (Option TI)->Trie (Option TI)
 | 0,t=>t
 | n+1,t=>tysTo p n (t.set n (tyOf p n))
structure Prg where
 p:Program
 tys:Trie (Option TI)
 funcs:Trie Func
def prg (p:Program):Prg:=⟨p,tysTo p p.types.size .leaf,fillFrom 0 p.funcs.toList .leaf⟩
def Prg.ty (g:Prg) (t:TypeId):Option TI :=
 match Nat.blt t 16777215 with
 | true=>match g.tys.get t with
  | some i=>i
  | none=>none
 | false=>none
def Prg.fn (g:Prg) (f:FuncId):Option Func :=
 match Nat.blt f 16777215 with
 | true=>g.funcs.get f
 | false=>none
abbrev Tmps:=Trie Value
def ev (t:Tmps):Operand->Value
 | .tmp i=>match t.get i with
  | some v=>v
  | none=>undef
 | .const v=>v
 | .global g=>.pointer (some ⟨g,0,none⟩)
 | .func f=>.func (.func f) #[] #[]
def putTmp (t:Tmps):Option Tmp->Value->Tmps
 | some d,v=>t.set d v
 | none,_=>t
def prun {α:Type} (p:Program):Sem α->Option α
 | .pure a=>some a
 | .choose q k=>match q.forced with
  | true=>prun p (k 0)
  | false=>none
 | .program k=>prun p (k p)
 | .mark _ k=>prun p k
 | _=>none
def flat:Nat->Value->Bool
 | 0,_=>false
 | n+1,v=>match v with
  | .bool _|.int _ _|.float _ _|.complex _ _ _|.string _=>true
  | .agg cs=>flats n cs.toList
  | .tuple cs=>flats n cs.toList
  | _=>false
where
 flats (n:Nat):List Value->Bool
  | []=>true
  | v :: l=>flat n v && flats n l
def aCells (w:AW) (b o:Nat):Nat->Option (List Value)
 | 0=>some []
 | n + 1=>match w.cell? ⟨b,o,none⟩ with
  | some v=>match aCells w b (o+1) n with
   | some l=>some (v :: l)
   | none=>none
  | none=>none
def intLt:Int->Int->Bool
 | .ofNat a,.ofNat b=>Nat.blt a b
 | .negSucc _,.ofNat _=>true
 | .ofNat _,.negSucc _=>false
 | .negSucc a,.negSucc b=>Nat.blt b a
def intEq:Int->Int->Bool
 | .ofNat a,.ofNat b=>Nat.beq a b
 | .negSucc a,.negSucc b=>Nat.beq a b
 | _,_=>false
def small (k:IntKind) (n:Int):Int :=
 match n with
 | .ofNat a=>match Nat.blt a 128 with
  | true=>.ofNat a
  | false=>k.wrap (.ofNat a)
 | a=>k.wrap a
def bytesEq:List UInt8->List UInt8->Bool
 | [],[]=>true
 | a :: x,b :: y=>match Nat.beq a.toNat b.toNat with
  | true=>bytesEq x y
  | false=>false
 | _,_=>false
def asNat:Value->Option Nat
 | .int _ (.ofNat n)=>some n
 | _=>none
def sameKind:IntKind->IntKind->Bool
 | .i64,.i64|.u8,.u8|.u64,.u64|.i32,.i32|.u32,.u32|.i8,.i8|.i16,.i16|.u16,.u16=>true
 | _,_=>false
def binV (op:BinOp) (x y:Value):Option Value :=
 match x,y with
 | .int k a,.int k' b =>
  match sameKind k k' with
  | true =>
   match op with
   | .lss=>some (.bool (intLt a b))
   | .leq=>some (.bool (!intLt b a))
   | .gtr=>some (.bool (intLt b a))
   | .geq=>some (.bool (!intLt a b))
   | .eql=>some (.bool (intEq a b))
   | .neq=>some (.bool (!intEq a b))
   | .add=>some (.int k (small k (a+b)))
   | .sub=>some (.int k (small k (a - b)))
   | _=>none
  | false=>none
 | .string a,.string b =>
  match op with
  | .eql=>some (.bool (bytesEq a.data.toList b.data.toList))
  | .neq=>some (.bool (!bytesEq a.data.toList b.data.toList))
  | _=>none
 | _,_=>none
def loadV (w:AW) (agg:Bool) (n:Nat) (a:Value):Option Value :=
 match a with
 | .pointer (some ⟨b,o,none⟩) =>
  match agg with
  | true=>match aCells w b o n with
   | some l=>some (.agg l.toArray)
   | none=>none
  | false=>w.cell? ⟨b,o,none⟩
 | _=>none
def indexV (z:Nat) (x i:Value):Option Value :=
 match x,i with
 | .slice (some ⟨b,o,none⟩) n _,.int _ (.ofNat i)=>match Nat.blt i n with
  | true=>some (.pointer (some ⟨b,Nat.add o (Nat.mul i z),none⟩))
  | false=>none
 | _,_=>none
def indexA (z len:Nat) (x i:Value):Option Value :=
 match x,i with
 | .pointer (some ⟨b,o,none⟩),.int _ (.ofNat i)=>match Nat.blt i len with
  | true=>some (.pointer (some ⟨b,Nat.add o (Nat.mul i z),none⟩))
  | false=>none
 | _,_=>none
def lenV (x:Value):Option Value :=
 match x with
 | .slice _ n _=>some (.int .i64 (.ofNat n))
 | _=>none
def lenM (w:AW) (x:Value):Option Value :=
 match x with
 | .map none=>some (.int .i64 0)
 | .map (some r)=>match w.blk r with
  | some (.map es _)=>some (.int .i64 (.ofNat es.size))
  | _=>none
 | _=>none
def extractV (i:Nat) (x:Value):Option Value :=
 match x with
 | .tuple vs=>getL vs.toList i
 | _=>none
def pickV (c a b:Value):Option Value :=
 match c with
 | .bool true=>some a
 | .bool false=>some b
 | _=>none
def natOr (d:Nat):Option Value->Option Nat
 | none=>some d
 | some (.int _ (.ofNat n))=>some n
 | _=>none
def sliceV (w:AW) (size:Nat) (x:Value) (lo hi:Option Value):Option Value :=
 match x with
 | .slice (some ⟨b,o,none⟩) n k =>
  match natOr 0 lo,natOr n hi with
  | some l,some h =>
   match Nat.ble l h && Nat.ble h k with
   | true=>match w.blk b with
    | some (.cells _ _ _ _ z)=>match Nat.beq z size || Nat.beq z 0 && (Nat.beq l 0 || Nat.blt l k) with
     | true=>some (.slice (some ⟨b,o+l * size,none⟩) (h - l) (k - l))
     | false=>match Nat.beq z 0 && Nat.beq l k with
      | true=>some (.slice (some ⟨b,o,none⟩) (h - l) (k - l))
      | false=>none
    | some (.given _)=>some (.slice (some ⟨b,bif Nat.beq k l then o else o+l * size,none⟩) (h - l) (k - l))
    | _=>none
   | false=>none
  | _,_=>none
 | .slice none n k=>match natOr 0 lo,natOr n hi with
  | some 0,some 0=>match Nat.beq n 0 && Nat.beq k 0 with
   | true=>some (.slice none 0 0)
   | false=>none
  | _,_=>none
 | .slice (some ⟨b,o,some s⟩) n k=>match natOr 0 lo,natOr n hi with
  | some 0,some 0=>match Nat.beq n 0 && Nat.beq k 0 with
   | true=>some (.slice (some ⟨b,o,some s⟩) 0 0)
   | false=>none
  | _,_=>none
 | _=>none
def slicePV (n size:Nat) (x:Value) (lo hi:Option Value):Option Value :=
 match x with
 | .pointer (some ⟨b,o,none⟩) =>
  match natOr 0 lo,natOr n hi with
  | some l,some h =>
   match Nat.ble l h && Nat.ble h n with
   | true=>some (.slice (some ⟨b,bif Nat.beq n l then o else o+l * size,none⟩) (h - l) (n - l))
   | false=>none
  | _,_=>none
 | _=>none
def sliceMV (size:Nat) (x:Value) (lo hi mx:Option Value):Option Value :=
 match natOr 0 lo,hi,mx with
 | some l,some (.int _ (.ofNat h)),some (.int _ (.ofNat m)) =>
  match x with
  | .slice (some ⟨b,o,none⟩) _ k =>
   match Nat.ble l h && Nat.ble h m && Nat.ble m k with
   | true=>some (.slice (some ⟨b,bif Nat.beq m l then o else o+l * size,none⟩) (h - l) (m - l))
   | false=>none
  | .slice none 0 0=>match Nat.beq h 0 && Nat.beq m 0 && Nat.beq l 0 with
   | true=>some (.slice none 0 0)
   | false=>none
  | _=>none
 | _,_,_=>none
def partV (agg:Bool) (size:Nat) (cs:Array Value) (off:Nat):Option Value :=
 match agg with
 | true=>some (.agg (cs.extract off (off+size)))
 | false=>getL cs.toList off
def eqNil (d:TypeDesc) (x y:Value):Option Bool :=
 match d,x,y with
 | .pointer _,.pointer none,.pointer b=>some b.isNone
 | .pointer _,.pointer (some _),.pointer none=>some false
 | .interface _,.nilIface,.iface _ _|.interface _,.iface _ _,.nilIface=>some false
 | .slice _,.slice none _ _,.slice b _ _=>some b.isNone
 | .slice _,.slice (some _) _ _,.slice none _ _=>some false
 | .map _ _,.map none,.map b=>some b.isNone
 | .map _ _,.map (some _),.map none=>some false
 | .func _ _ _,.nilFunc,.nilFunc=>some true
 | .func _ _ _,.nilFunc,.func _ _ _|.func _ _ _,.func _ _ _,.nilFunc=>some false
 | _,_,_=>none
def eqNilV (d:TypeDesc) (op:BinOp) (x y:Value):Option Value :=
 match op with
 | .eql=>match eqNil d x y with
  | some b=>some (.bool b)
  | none=>none
 | .neq=>match eqNil d x y with
  | some b=>some (.bool (!b))
  | none=>none
 | _=>none
def nilC (d:TypeDesc) (op:BinOp) (Y:Operand) (x:Value):Option Value :=
 match d,Y,x with
 | .interface _,.const .nilIface,.nilIface=>match op with
  | .eql=>some (.bool true)
  | .neq=>some (.bool false)
  | _=>none
 | _,_,_=>none
def simpleKey:TypeDesc->Bool
 | .int _|.string=>true
 | _=>false
def lookupV (w:AW) (kd:TypeDesc) (zero:Value) (x k:Value) (ok:Bool):Option Value :=
 match simpleKey kd with
 | false=>none
 | true =>
  match (match x with
   | .map none=>some #[]
   | .map (some r)=>match w.blk r with
    | some (.map es _)=>some es
    | _=>none
   | _=>none:Option (Array MapEntry)) with
  | none=>none
  | some es =>
   match Instr.findNow kd k es.toList 0 with
   | none=>none
   | some (some (_,v))=>some (match ok with|true=>.tuple #[v,.bool true]|false=>v)
   | some none=>some (match ok with|true=>.tuple #[zero,.bool false]|false=>zero)
def aggKey:TypeDesc->Bool
 | .struct _|.array _ _=>true
 | _=>false
def findAskQ (p:Program) (kt:TypeId) (k:Value):List MapEntry->Nat->Option (Option (Nat × Value))
 | [],_=>some none
 | e :: es,i =>
  match flat 6 e.key with
  | false=>none
  | true =>
   match prun p (Go.Op.equal kt k e.key) with
   | some true=>some (some (i,e.val))
   | some false=>findAskQ p kt k es (i+1)
   | none=>none
def keyFine (p:Program) (kt:TypeId) (empty:Bool) (k:Value):Bool :=
 match prun p (Instr.checkKey empty 10000 kt k) with
 | some _=>true
 | none=>false
def lookupA (p:Program) (w:AW) (kt:TypeId) (kd:TypeDesc) (zero x k:Value) (ok:Bool):Option Value :=
 match aggKey kd && flat 6 k with
 | false=>none
 | true =>
  match (match x with
   | .map none=>some #[]
   | .map (some r)=>match w.blk r with
    | some (.map es _)=>some es
    | _=>none
   | _=>none:Option (Array MapEntry)) with
  | none=>none
  | some es =>
   match keyFine p kt es.isEmpty k with
   | false=>none
   | true =>
    match findAskQ p kt k es.toList 0 with
    | none=>none
    | some (some (_,v))=>some (match ok with|true=>.tuple #[v,.bool true]|false=>v)
    | some none=>some (match ok with|true=>.tuple #[zero,.bool false]|false=>zero)
def byteVals:List Value->Option (List UInt8)
 | []=>some []
 | v :: l=>match v with
  | .int .u8 n=>match byteVals l with
   | some r=>some (UInt8.ofNat n.toNat :: r)
   | none=>none
  | _=>none
def bytesV (w:AW) (x:Value):Option Value :=
 match x with
 | .slice none _ _=>some (.string .empty)
 | .slice (some ⟨b,o,none⟩) n _=>match aCells w b o n with
  | some vs=>match byteVals vs with
   | some ns=>some (.string ⟨ns.toArray⟩)
   | none=>none
  | none=>none
 | _=>none
def assertV (g:Prg) (x:Value) (asserted:TypeId) (ok:Bool):Option Value :=
 match g.ty asserted with
 | some ⟨_,.interface _,_,_,_⟩=>none
 | some ⟨_,_,_,_,zero⟩ =>
  match x with
  | .nilIface=>match ok with|true=>some (.tuple #[zero,.bool false])|false=>none
  | .iface t v=>match Nat.beq t asserted with
   | true=>some (match ok with|true=>.tuple #[v,.bool true]|false=>v)
   | false=>match ok with|true=>some (.tuple #[zero,.bool false])|false=>none
  | _=>none
 | none=>none
def methodV (g:Prg) (x:Value) (name:String):Option (FuncId × Value) :=
 match x with
 | .iface t v =>
  match g.ty t,g.p.info? t with
  | some ⟨_,d,_,_,_⟩,some i =>
   match i.methods.toList.find? (·.name == name) with
   | some m=>match m.path.toList,m.func with
    | [],some (f,true)=>match d with|.pointer _=>some (f,v)|_=>none
    | [],some (f,false)=>match d with|.pointer _=>none|_=>some (f,v)
    | _,_=>none
   | none=>none
  | _,_=>none
 | _=>none
def fast (g:Prg) (t:Tmps) (w:AW) (o:Op):Option Value :=
 match o with
 | .move x|.assign x=>some (ev t x)
 | .pick c a b=>pickV (ev t c) (ev t a) (ev t b)
 | .binOp op ty x y _ =>
  match binV op (ev t x) (ev t y) with
  | some v=>some v
  | none=>match g.ty ty with
   | some ⟨_,d,_,_,_⟩=>match nilC d op y (ev t x) with
    | some v=>some v
    | none=>eqNilV d op (ev t x) (ev t y)
   | none=>none
 | .load ty a =>
  match g.ty ty with
  | some ⟨agg,_,n,_,_⟩=>loadV w agg n (ev t a)
  | none=>none
 | .indexAddr ty x i =>
  match g.ty ty with
  | some ⟨_,.slice e,_,_,_⟩=>match g.ty e with
   | some ⟨_,_,z,_,_⟩=>indexV z (ev t x) (ev t i)
   | none=>none
  | some ⟨_,.array len e,_,_,_⟩=>match g.ty e with
   | some ⟨_,_,z,_,_⟩=>indexA z len (ev t x) (ev t i)
   | none=>none
  | _=>none
 | .call ⟨.builtin .len,args,tys⟩=>match args.toList,tys.toList with
  | [x],[ty]=>match g.ty ty with
   | some ⟨_,.slice _,_,_,_⟩=>lenV (ev t x)
   | some ⟨_,.map _ _,_,_,_⟩=>lenM w (ev t x)
   | _=>none
  | _,_=>none
 | .extract x i=>extractV i (ev t x)
 | .typeAssert x _ asserted ok=>assertV g (ev t x) asserted ok
 | .convert src dst x=>match g.ty src,g.ty dst with
  | some ⟨_,.slice e,_,_,_⟩,some ⟨_,.string,_,_,_⟩=>match g.ty e with
   | some ⟨_,.int .u8,_,_,_⟩=>bytesV w (ev t x)
   | _=>none
  | _,_=>none
 | .fieldAddr s x f =>
  match g.ty s,ev t x with
  | some ⟨_,.struct fields,_,_,_⟩,.pointer (some ⟨b,o,none⟩) =>
   match getL fields.toList f with
   | some fd=>match g.ty fd.type with
    | some ⟨_,_,z,_,_⟩=>match Nat.beq z 0 with
     | true=>none
     | false=>some (.pointer (some ⟨b,o+fd.offset,none⟩))
    | none=>none
   | none=>none
  | _,_=>none
 | .field s x f =>
  match g.ty s,ev t x with
  | some ⟨_,.struct fields,_,_,_⟩,.agg cs =>
   match getL fields.toList f with
   | some fd=>match g.ty fd.type with
    | some ⟨agg,_,z,_,_⟩=>partV agg z cs fd.offset
    | none=>none
   | none=>none
  | _,_=>none
 | .index s x i =>
  match g.ty s,ev t x,ev t i with
  | some ⟨_,.array len e,_,_,_⟩,.agg cs,.int _ (.ofNat i) =>
   match Nat.blt i len,g.ty e with
   | true,some ⟨agg,_,z,_,_⟩=>partV agg z cs (i * z)
   | _,_=>none
  | _,_,_=>none
 | .nilCheck x=>match ev t x with
  | .pointer (some a)=>some (.pointer (some a))
  | _=>none
 | .makeInterface ty x=>match g.ty ty with
  | some ⟨_,.interface _,_,_,_⟩=>none
  | some _=>some (.iface ty (ev t x))
  | none=>none
 | .makeFunc (.func f) first captured=>some (.func (.func f) (first.map (ev t)) (captured.map (ev t)))
 | .slice ty x lo hi none =>
  match g.ty ty with
  | some ⟨_,.slice e,_,_,_⟩=>match g.ty e with
   | some ⟨_,_,z,_,_⟩=>sliceV w z (ev t x) (lo.map (ev t)) (hi.map (ev t))
   | none=>none
  | some ⟨_,.array n e,_,_,_⟩=>match g.ty e with
   | some ⟨_,_,z,_,_⟩=>slicePV n z (ev t x) (lo.map (ev t)) (hi.map (ev t))
   | none=>none
  | _=>none
 | .slice ty x lo hi (some mx) =>
  match g.ty ty with
  | some ⟨_,.slice e,_,_,_⟩=>match g.ty e with
   | some ⟨_,_,z,_,_⟩=>sliceMV z (ev t x) (lo.map (ev t)) (hi.map (ev t)) (some (ev t mx))
   | none=>none
  | _=>none
 | .lookup ty x k ok =>
  match g.ty ty with
  | some ⟨_,.map kt e,_,_,_⟩=>match g.ty kt,g.ty e with
   | some ⟨_,kd,_,_,_⟩,some ⟨_,_,_,_,zero⟩=>match simpleKey kd with
    | true=>lookupV w kd zero (ev t x) (ev t k) ok
    | false=>lookupA g.p w kt kd zero (ev t x) (ev t k) ok
   | _,_=>none
  | _=>none
 | .build ty parts =>
  match g.ty ty with
  | some ⟨_,.struct fields,_,_,zero⟩ =>
   match places g fields.toList with
   | some ps=>match Instr.fill (getL ps ·) zero.cells (parts.map fun (i,x)=>(i,ev t x)).toList with
    | some cells=>some (.agg cells)
    | none=>none
   | none=>none
  | some ⟨_,.array _ e,_,_,zero⟩ =>
   match g.ty e with
   | some ⟨_,_,z,_,_⟩=>match Instr.fill (fun i=>some (i * z,z)) zero.cells (parts.map fun (i,x)=>(i,ev t x)).toList with
    | some cells=>some (.agg cells)
    | none=>none
   | none=>none
  | _=>none
 | _=>none
where
 places (g:Prg):List Field->Option (List (Nat × Nat))
  | []=>some []
  | f :: l=>match g.ty f.type,places g l with
   | some ⟨_,_,z,_,_⟩,some ps=>some ((f.offset,z) :: ps)
   | _,_=>none
def flatOps (t:Tmps):List Operand->Bool
 | []=>true
 | x :: l=>flat 6 (ev t x) && flatOps t l
def flatKind:Op->Bool
 | .binOp ..|.unOp ..|.convert ..|.field ..|.index ..|.build ..|.slice ..=>true
 | .call ⟨.builtin .len,_,_⟩|.call ⟨.builtin .min,_,_⟩|.call ⟨.builtin .max,_,_⟩=>true
 | _=>false
def quiet (g:Prg) (t:Tmps) (w:AW) (o:Oper):Option Value :=
 match fast g t w o.op with
 | some v=>some v
 | none =>
  match flatKind o.op && flatOps t o.op.operands.toList with
  | true=>match prun g.p (execOp (ev t) o) with
   | some (.value v)=>match flat 6 v with
    | true=>some v
    | false=>none
   | _=>none
  | false=>none
def bound:Nat:=2 ^ 20
def room:Nat:=140737488355328
def makes (g:Prg) (t:Tmps) (o:Op):Option (List Value × TypeId × (Nat->Value)) :=
 match o with
 | .alloc e=>match g.ty e with
  | some i=>some (i.zero.cells.toList,e,fun b=>.pointer (some ⟨b,0,none⟩))
  | none=>none
 | .box e x=>some ((ev t x).cells.toList,e,fun b=>.pointer (some ⟨b,0,none⟩))
 | .buildSlice ty len parts =>
  match g.ty ty with
  | some ⟨_,.slice e,_,_,_⟩ =>
   match g.ty e with
   | some i =>
    match Nat.ble (len * i.size) (2 ^ 24) with
    | true =>
     match Instr.fill (fun k=>some (k * i.size,i.size)) ((Array.range (len * i.size)).map ((if len * i.size=0 then #[] else i.zero.cells)[· % (if len * i.size=0 then #[] else i.zero.cells).size]!)) (parts.map fun (k,x)=>(k,ev t x)).toList with
     | some cells=>some (cells.toList,e,fun b=>.slice (some ⟨b,0,none⟩) len len)
     | none=>none
    | false=>none
   | none=>none
  | _=>none
 | .makeSlice ty l c =>
  match g.ty ty,ev t l,ev t c with
  | some ⟨_,.slice e,_,_,_⟩,.int _ (.ofNat l),.int _ (.ofNat c) =>
   match g.ty e with
   | some ⟨_,_,size,bytes,zero⟩ =>
    match Nat.ble l c && Nat.ble c bound && Nat.ble bytes bound && Nat.ble size bound && Nat.beq zero.cells.size size with
    | true=>some (List.flatten (List.replicate c zero.cells.toList),e,fun b=>.slice (some ⟨b,0,none⟩) l c)
    | false=>none
   | none=>none
  | _,_,_=>none
 | _=>none
inductive Kind where
 | quiet
 | makes
 | effect
def kind:Op->Kind
 | .move _|.assign _|.pick ..|.load ..|.nilCheck _|.binOp ..|.unOp ..|.convert ..|.makeInterface ..|.makeFunc ..|.slice ..|.fieldAddr ..|.field ..|.indexAddr ..|.index ..|.lookup ..|.extract ..|.build ..|.typeAssert ..=>.quiet
 | .call ⟨.builtin .len,_,_⟩|.call ⟨.builtin .min,_,_⟩|.call ⟨.builtin .max,_,_⟩=>.quiet
 | .alloc _|.box ..|.buildSlice ..|.makeSlice ..=>.makes
 | _=>.effect
def members:List Nat->Nat->List Nat
 | [],r=>[r]
 | l,_=>l
def struckOver (me:Nat) (f:List Nat):Nat->Nat->AW->AW
 | 0,_,w=>w
 | m+1,lo,w=>struckOver me f m (lo+1) (strikes me lo f w)
def AW.lay (w:AW) (r:Nat) (f:List Nat) (k:Blk):AW :=
 match w with
 | ⟨h,fs,n⟩=>⟨h.set n k,fs.set r (n :: f),n+1⟩
def AW.grow (w:AW) (base:Option Addr) (n size:Nat) (cells:List Value) (more:Nat) (elem:TypeId):Option AW :=
 match w.full with
 | true=>none
 | false =>
 match base with
 | none=>some (w.push (.cells cells elem w.next 0 size))
 | some ⟨ab,ao,none⟩ =>
  match w.blk ab with
  | some (.cells _ _ r b z) =>
   match Nat.beq z 0 with
   | true=>some (w.push (.cells cells elem w.next 0 size))
   | false =>
    match Nat.beq z size with
    | true=>some ((struckOver w.next (members (w.family r) r) more (b+ao+n * size) w).lay r (members (w.family r) r) (.cells cells elem r (b+ao) size))
    | false=>none
  | _=>none
 | _=>none
def aFirst (w:AW) (size n:Nat):Value->Option (List Value)
 | .slice (some ⟨b,o,none⟩) _ _=>aCells w b o (n * size)
 | .slice none _ _=>some []
 | _=>none
def aNew (w:AW) (size n:Nat) (x:Value):Option (List Value) :=
 match aFirst w size n x with
 | some l=>some l
 | none=>match n with
  | 0=>some []
  | _+1=>none
def aStores (b:Nat):Nat->List Value->AW->Option AW
 | _,[],w=>some w
 | o,v :: l,w=>match w.store ⟨b,o,none⟩ v with
  | some w=>aStores b (o+1) l w
  | none=>none
def append (g : Prg) (w:AW) (sType xType:TypeId) (s x:Value):Option (Value × AW) :=
 match s,x with
 | .slice base sLen sCap,.slice _ n _ =>
  match g.ty sType,g.ty xType with
  | some ⟨_, .slice elem,_,_,_⟩,some ⟨_,.slice _,_,_,_⟩ =>
   match g.ty elem with
   | some ⟨_, _,size,bytes,zero⟩ =>
    match Nat.beq zero.cells.size size && Nat.ble (sLen+n) room && Nat.ble ((sLen+n) * bytes) room && Nat.ble 1 size && Nat.beq sType xType with
    | true =>
     match aNew w size n x with
     | none=>none
     | some new =>
      match Nat.ble (sLen+n) sCap with
      | true =>
       match base with
       | some ⟨b,o,none⟩=>match aStores b (o+sLen * size) new w with
        | some w=>some (.slice base (sLen+n) sCap,w)
        | none=>none
       | none=>some (.slice base (sLen+n) sCap,w)
       | _=>none
      | false =>
       match aFirst w size sLen s with
       | none=>none
       | some old=>match w.grow base sLen size (old++new) (n * size) elem with
        | some w'=>some (.slice (some ⟨w.next,0,none⟩) (sLen+n) (sLen+n),w')
        | none=>none
    | false=>none
   | none=>none
  | _,_=>none
 | _,_=>none
inductive CR where
 | ret (v:Value) (w:AW)
 | pan (v:Value) (w:AW)
 | fail (why:String)
structure Env where
 fn:FuncId
 round:Option Nat
inductive OR where
 | ok (t:Tmps) (w:AW)
 | pan (v:Value) (t:Tmps) (w:AW)
 | fail (why:String)
inductive Ex where
 | normal
 | exit (id:Nat)
 | ret
 | pan (v:Value)
inductive DI where
 | mark (b:Nat)
 | call (f:FuncId) (args captured:Array Value)
inductive XR where
 | go (e:Ex) (t:Tmps) (ds:List DI) (w:AW)
 | fail (why:String)
abbrev CallF:=Target->Array Value->AW->CR
def storeV (w:AW) (agg:Bool) (size:Nat) (a x:Value):Option AW :=
 match a with
 | .pointer (some ⟨b,o,none⟩) =>
  match agg with
  | true=>match x with
   | .agg cs=>match Nat.beq cs.size size with
    | true=>aStores b o cs.toList w
    | false=>none
   | _=>none
  | false=>match oneCell x && Nat.beq size 1 with
   | true=>w.store ⟨b,o,none⟩ x
   | false=>none
 | _=>none
def clearV (g:Prg) (w:AW) (x:Value) (ty:TypeId):Option AW :=
 match x,g.ty ty with
 | .slice (some ⟨b,o,none⟩) n _,some ⟨_,.slice e,_,_,_⟩ =>
  match g.ty e with
  | some ⟨_,_,size,_,zero⟩ =>
   match Nat.beq zero.cells.size 1 && Nat.beq size 1 with
   | true=>aStores b o (List.replicate n (zero.cells.getD 0 undef)) w
   | false=>none
  | none=>none
 | _,_=>none
def copyV (g:Prg) (w:AW) (d x:Value) (ty _xType:TypeId):Option (Value × AW) :=
 match d,x,g.ty ty with
 | .slice (some ⟨b,o,none⟩) dl _,.slice y sl yc,some ⟨_,.slice e,_,_,_⟩ =>
  match g.ty e with
  | some ⟨_,_,size,_,_⟩ =>
   match aFirst w size (Nat.min sl dl) (.slice y sl yc) with
   | some l=>match aStores b o l w with
    | some w=>some (goInt (Nat.min sl dl),w)
    | none=>none
   | none=>none
  | none=>none
 | _,_,_=>none
def makeSliceV (g:Prg) (w:AW) (ty:TypeId) (l c:Value):Option (Value × AW) :=
 match g.ty ty,l,c with
 | some ⟨_,.slice e,_,_,_⟩,.int _ (.ofNat l),.int _ (.ofNat c) =>
  match g.ty e with
  | some ⟨_,_,size,bytes,zero⟩ =>
   match Nat.ble l c && Nat.ble c bound && Nat.ble bytes bound && Nat.ble size bound && Nat.beq zero.cells.size size && !w.full with
   | true=>some (.slice (some ⟨w.next,0,none⟩) l c,w.push (.cells (List.flatten (List.replicate c zero.cells.toList)) e w.next 0 0))
   | false=>none
  | none=>none
 | _,_,_=>none
def updateV (g:Prg) (w:AW) (ty:TypeId) (m k x:Value):Option AW :=
 match g.ty ty,m with
 | some ⟨_, .map kt _,_,_,_⟩,.map (some r) =>
  match g.ty kt,w.blk r with
  | some ⟨_, kd,_,_,_⟩,some (.map es clock) =>
   match simpleKey kd with
   | false =>
    match aggKey kd && flat 6 k && keyFine g.p kt false k with
    | false=>none
    | true =>
     match findAskQ g.p kt k es.toList 0 with
     | some (some (i,_)) =>
      match es.toList[i]? with
      | some e=>match Instr.sameBits 10000 e.key k with
       | true=>some (w.put r (.map (es.modify i fun e=>{ e with key:=k,val:=x }) clock))
       | false=>none
      | none=>none
     | some none=>some (w.put r (.map (es.push { key:=k,val:=x,born:=clock }) (clock+1)))
     | none=>none
   | true =>
    match Instr.findNow kd k es.toList 0 with
    | some (some (i,_))=>some (w.put r (.map (es.modify i fun e=>{ e with key:=k,val:=x }) clock))
    | some none=>some (w.put r (.map (es.push { key:=k,val:=x,born:=clock }) (clock+1)))
    | none=>none
  | _,_=>none
 | _,_=>none
def wrote (t:Tmps) (d:Option Tmp):Option AW->OR
 | some w=>.ok (putTmp t d undef) w
 | none=>.fail "write"
def gave (t:Tmps) (d:Option Tmp):Option (Value × AW)->OR
 | some (v,w)=>.ok (putTmp t d v) w
 | none=>.fail "write"
def came (t:Tmps) (d:Option Tmp):CR->OR
 | .ret v w=>.ok (putTmp t d v) w
 | .pan v w=>.pan v t w
 | .fail y=>.fail y
def effect (g:Prg) (call:CallF) (o:Oper) (t:Tmps) (w:AW):OR :=
 match o.op with
 | .store ty a x=>match g.ty ty with
  | some ⟨agg,_,size,_,_⟩=>wrote t o.dst (storeV w agg size (ev t a) (ev t x))
  | none=>.fail "store"
 | .call ⟨.builtin .append,args,tys⟩=>match args.toList,tys.toList with
  | [s,x],[sType,xType]=>gave t o.dst (append g w sType xType (ev t s) (ev t x))
  | _,_=>.fail "append"
 | .call ⟨.builtin .clear,args,tys⟩=>match args.toList,tys.toList with
  | [x],[ty]=>wrote t o.dst (clearV g w (ev t x) ty)
  | _,_=>.fail "clear"
 | .call ⟨.builtin .copy,args,tys⟩=>match args.toList,tys.toList with
  | [d,x],[dType,xType]=>gave t o.dst (copyV g w (ev t d) (ev t x) dType xType)
  | _,_=>.fail "copy"
 | .makeSlice ty l c=>gave t o.dst (makeSliceV g w ty (ev t l) (ev t c))
 | .makeMap _ none=>match w.full with
  | false=>.ok (putTmp t o.dst (.map (some w.next))) (w.push (.map #[] 0))
  | true=>.fail "room"
 | .mapUpdate ty m k x|.insert ty m k x=>wrote t o.dst (updateV g w ty (ev t m) (ev t k) (ev t x))
 | .call ⟨.value f,args,_⟩=>match ev t f with
  | .func fn first captured=>came t o.dst (call (.fn fn captured) (first++args.map (ev t)) w)
  | _=>.fail "call"
 | .call ⟨.invoke r name,args,_⟩=>match methodV g (ev t r) name with
  | some (f,v)=>came t o.dst (call (.fn (.func f) #[]) (#[v]++args.map (ev t)) w)
  | none=>.fail "invoke"
 | .panic x=>match ev t x with
  | .iface ty v=>.pan (.iface ty v) t w
  | _=>.fail "panic"
 | _=>.fail "operation"
def aop (g:Prg) (call:CallF) (o:Oper) (t:Tmps) (w:AW):OR :=
 match kind o.op with
 | .quiet=>match quiet g t w o with
  | some v=>.ok (putTmp t o.dst v) w
  | none=>.fail o.pos
 | .makes=>match w.full with
  | false=>match makes g t o.op with
   | some (cells,e,f)=>.ok (putTmp t o.dst (f w.next)) (w.push (.cells cells e w.next 0 0))
   | none=>.fail "makes"
  | true=>.fail "room"
 | .effect=>effect g call o t w
def yieldedA (ops:Array Oper) (t:Tmps) (j:Nat):Option Bool :=
 match (ops[j]?).bind (·.dst) with
 | some d=>match t.get d with
  | some (.bool b)=>some b
  | _=>none
 | none=>none
def wantedA (ops:Array Oper) (o:Oper) (t:Tmps):Bool :=
 match o.guard with
 | none=>true
 | some (j,want)=>match yieldedA ops t j,want with
  | some true,true=>true
  | some false,false=>true
  | _,_=>false
def aops (g:Prg) (call:CallF) (ops:Array Oper):List Oper->Tmps->AW->OR
 | [],t,w=>.ok t w
 | o :: l,t,w =>
  match wantedA ops o t with
  | true =>
   match aop g call o t w with
   | .ok t w=>aops g call ops l t w
   | r=>r
  | false=>aops g call ops l (putTmp t o.dst undef) w
def tmpsOf (ops:Array Oper) (o:Oper):List Tmp :=
 (o.op.operands.toList.filterMap fun|.tmp t=>some t|_=>none)++(match o.guard with|some (j,_)=>((ops[j]?).bind (·.dst)).toList|none=>[])
structure Phase where
 quiets:List Nat
 effect:Option Nat
def isEffect (o:Oper):Bool:=match kind o.op with|.effect=>true|_=>false
def effectAt (ops:Array Oper) (i:Nat):Bool:=match ops[i]? with|some o=>isEffect o|none=>false
def effectsBefore (es:List Nat) (b:Nat):Nat:=(es.filter fun e=>b.testBit e).length
def maskOf (b:Array Nat):List Edge->Nat
 | []=>0
 | e :: l=>match Region.binds .any e with
  | true=>2 ^ e.on ||| b.getD e.on 0 ||| maskOf b l
  | false=>maskOf b l
structure Plan where
 phases:List Phase
 before:Array Nat
def planOk (ops:Array Oper) (b:Array Nat):Bool :=
 ops.toList.zipIdx.all fun (o,i) =>
  o.after.toList.all (fun e=>!Region.binds .any e || Nat.blt e.on i) && Nat.beq (b.getD i 0) (maskOf b o.after.toList) &&
  (tmpsOf ops o).all (fun t=>ops.toList.zipIdx.all fun (q,j)=>!(q.dst == some t) || Nat.beq i j || (b.getD i 0).testBit j || (b.getD j 0).testBit i) &&
  ops.toList.zipIdx.all (fun (q,j)=>(match o.dst,q.dst with|some d,some d'=>!Nat.beq d d'|_,_=>true) || Nat.beq i j)
def within (b d:Nat):Bool:=Nat.beq (b &&& d) b
def quietsOk (ops:Array Oper) (b:Array Nat):List Nat->Nat->Option Nat
 | [],d=>some d
 | i :: l,d =>
  match Nat.blt i ops.size && !effectAt ops i && !d.testBit i && within (b.getD i 0) d with
  | true=>quietsOk ops b l (d ||| 2 ^ i)
  | false=>none
def phasesOk (ops:Array Oper) (b:Array Nat):List Phase->Nat->Bool
 | [],_=>false
 | ph :: l,d =>
  match quietsOk ops b ph.quiets d with
  | none=>false
  | some d =>
   (List.range ops.size).all (fun i=>effectAt ops i || d.testBit i || !within (b.getD i 0) d) &&
   match ph.effect with
   | none=>(match l with|[]=>true|_=>false) && (List.range ops.size).all (fun i=>d.testBit i)
   | some e=>Nat.blt e ops.size && effectAt ops e && !d.testBit e && within (b.getD e 0) d &&
    (List.range ops.size).all (fun i=>!effectAt ops i || d.testBit i || Nat.beq i e || (b.getD i 0).testBit e) && phasesOk ops b l (d ||| 2 ^ e)
def phaseOf (ops:Array Oper) (b:Array Nat) (es:List Nat) (k:Nat):Phase :=
 { quiets:=(List.range ops.size).filter fun i=>!effectAt ops i && Nat.beq (effectsBefore es (b.getD i 0)) k,
   effect:=es[k]? }
def planOf (ops:Array Oper):Option Plan :=
 let b:=Region.before ops
 let es:=(List.range ops.size).filter (effectAt ops)
 let ps:=(List.range (es.length+1)).map (phaseOf ops b es)
 match planOk ops b && phasesOk ops b ps 0 with
 | false=>none
 | true=>some { phases:=ps,before:=b }
def same:Nat->Value->Value->Bool
 | 0,_,_=>false
 | n+1,a,b=>match a,b with
  | .bool true,.bool true|.bool false,.bool false=>true
  | .int .i64 a,.int .i64 b=>intEq a b
  | .int .u8 a,.int .u8 b=>intEq a b
  | .int .u64 a,.int .u64 b=>intEq a b
  | .string a,.string b=>bytesEq a.data.toList b.data.toList
  | .pointer none,.pointer none=>true
  | .pointer (some ⟨b,o,none⟩),.pointer (some ⟨b',o',none⟩)=>Nat.beq b b' && Nat.beq o o'
  | .slice none l c,.slice none l' c'=>Nat.beq l l' && Nat.beq c c'
  | .slice (some ⟨b,o,some s⟩) l c,.slice (some ⟨b',o',some s'⟩) l' c'=>Nat.beq b b' && Nat.beq o o' && Nat.beq s s' && Nat.beq l l' && Nat.beq c c'
  | .slice (some ⟨b,o,none⟩) l c,.slice (some ⟨b',o',none⟩) l' c'=>Nat.beq b b' && Nat.beq o o' && Nat.beq l l' && Nat.beq c c'
  | .map none,.map none=>true
  | .map (some a),.map (some b)=>Nat.beq a b
  | .nilFunc,.nilFunc=>true
  | .func (.func f) a b,.func (.func f') a' b'=>Nat.beq f f' && all n a.toList a'.toList && all n b.toList b'.toList
  | .func (.yield f) a b,.func (.yield f') a' b'=>Nat.beq f f' && all n a.toList a'.toList && all n b.toList b'.toList
  | .nilIface,.nilIface=>true
  | .iface t v,.iface t' v'=>Nat.beq t t' && same n v v'
  | .agg a,.agg b=>all n a.toList b.toList
  | .tuple a,.tuple b=>all n a.toList b.toList
  | _,_=>false
where
 all (n:Nat):List Value->List Value->Bool
  | [],[]=>true
  | a :: x,b :: y=>same n a b && all n x y
  | _,_=>false
structure Seen where
 i:Nat
 o:Oper
 t:Tmps
 v:Value
def looksAgain (g:Prg) (mask:Nat) (w:AW):List Seen->Bool
 | []=>true
 | ⟨i, o,t,v⟩ :: l =>
  match mask.testBit i with
  | true=>looksAgain g mask w l
  | false =>
   match quiet g t w o with
   | some u=>match same 12 v u with
    | true=>looksAgain g mask w l
    | false=>false
   | none=>false
inductive QR where
 | ok (t:Tmps) (seen:List Seen) (w:AW)
 | fail (why:String)
def aquiets (g:Prg) (ops:Array Oper):List Nat->Tmps->List Seen->AW->QR
 | [],t,seen,w=>.ok t seen w
 | i :: l, t,seen,w =>
  match ops[i]? with
  | none=>.fail "no operation"
  | some o =>
   match wantedA ops o t with
   | true =>
    match kind o.op with
    | .quiet =>
     match quiet g t w o with
     | some v=>aquiets g ops l (putTmp t o.dst v) (⟨i,o,t,v⟩ :: seen) w
     | none=>.fail o.pos
    | .makes =>
     match w.full with
     | false=>match makes g t o.op with
      | some (cells,e,f)=>aquiets g ops l (putTmp t o.dst (f w.next)) seen (w.push (.cells cells e w.next 0 0))
      | none=>.fail "makes"
     | true=>.fail "room"
    | .effect=>.fail "effect"
   | false=>aquiets g ops l (putTmp t o.dst undef) seen w
def aeffect (g:Prg) (call:CallF) (ops:Array Oper) (i:Nat) (t:Tmps) (w:AW):OR :=
 match ops[i]? with
 | none=>.fail "no operation"
 | some o=>match wantedA ops o t with
  | false=>.ok (putTmp t o.dst undef) w
  | true=>effect g call o t w
def aphases (g:Prg) (call:CallF) (ops:Array Oper) (before:Array Nat):List Phase->Nat->Tmps->List Seen->AW->OR
 | [],_,t,_,w=>.ok t w
 | ph :: l,mask,t,seen,w0 =>
  match aquiets g ops ph.quiets t seen w0 with
  | .fail y=>.fail y
  | .ok t seen' w =>
   match looksAgain g mask w (match Nat.beq w.next w0.next with|true=>seen|false=>seen') with
   | false=>.fail "a look that an effect turns"
   | true =>
    match ph.effect with
    | none=>aphases g call ops before l mask t seen' w
    | some i =>
     match aeffect g call ops i t w with
     | .ok t w=>aphases g call ops before l (before.getD i 0) t seen' w
     | .pan v t w=>.pan v t w
     | .fail y=>.fail y
def wipe:List Oper->Tmps->Tmps
 | [],t=>t
 | o :: l,t=>wipe l (putTmp t o.dst undef)
def wiped (ops:Array Oper) (t:Tmps):OR->OR
 | .pan v _ w=>.pan v (wipe ops.toList t) w
 | r=>r
def aregion (g:Prg) (call:CallF) (ops:Array Oper) (draw:Bool) (t:Tmps) (w:AW):OR :=
 match draw with
 | false=>aops g call ops ops.toList t w
 | true =>
  match planOf ops with
  | some ⟨phases,before⟩=>wiped ops t (aphases g call ops before phases 0 t [] w)
  | none=>.fail "plan"
def isDefer (o:Oper):Bool :=
 match o.op with
 | .defer _=>true
 | _=>false
def hasDefer:List Oper->Bool
 | []=>false
 | o :: l=>match isDefer o with
  | true=>true
  | false=>hasDefer l
def adops (g:Prg) (call:CallF) (env:Env) (ops:Array Oper):List Oper->Tmps->List DI->AW->XR
 | [],t,ds,w=>.go .normal t ds w
 | o :: l,t,ds,w =>
  match wantedA ops o t with
  | false=>adops g call env ops l (putTmp t o.dst undef) ds w
  | true =>
   match o.op with
   | .defer ⟨.value f,args,_⟩ =>
    match env.round,ev t f with
    | none,.func (.func fn) first captured=>adops g call env ops l (putTmp t o.dst undef) (.call fn (first++args.map (ev t)) captured :: ds) w
    | _,_=>.fail "defer"
   | .defer _=>.fail "defer"
   | _ =>
    match aop g call o t w with
    | .ok t w=>adops g call env ops l t ds w
    | .pan v t w=>.go (.pan v) t ds w
    | .fail y=>.fail y
def aboutLoop (round:Option Nat) (ds:List DI) (w:AW):Option (Nat × List DI × AW) :=
 match round with
 | some l=>match w.blk l with
  | some (.loop r)=>some (r.defers,ds,w)
  | _=>none
 | none=>some (w.next,.mark w.next :: ds,w.push (.deferred (some [])))
def endLoopA (l:Nat) (t:Tmps) (ds:List DI) (w:AW):XR :=
 match w.blk l with
 | some (.loop ⟨st,pending,f1,t1,p1,a1,b1,d1⟩) =>
  match st with
  | .busy=>.fail "endLoop: busy"
  | _ =>
   match pending with
   | none=>.go .normal t ds (w.put l (.loop ⟨.exhausted,pending,f1,t1,p1,a1,b1,d1⟩))
   | some .ret=>.go .ret t ds (w.put l (.loop ⟨.exhausted,pending,f1,t1,p1,a1,b1,d1⟩))
   | some (.exit id)=>.go (.exit id) t ds (w.put l (.loop ⟨.exhausted,pending,f1,t1,p1,a1,b1,d1⟩))
   | some _=>.fail "endLoop: jump"
 | _=>.fail "endLoop"
def ofCall (l:Nat) (t:Tmps) (ds:List DI):CR->XR
 | .fail y=>.fail y
 | .pan v w=>.go (.pan v) t ds w
 | .ret _ w=>endLoopA l t ds w
def aloop (call:CallF) (env:Env) (f:Operand) (params:Array Tmp) (assign body:Code) (t:Tmps) (ds:List DI) (w:AW):XR :=
 match w.full with
 | true=>.fail "room"
 | false =>
  match aboutLoop env.round ds w with
  | none=>.fail "rangeFunc: no loop"
  | some (d,ds,w) =>
   match ev t f with
   | .func fn first captured =>
    ofCall w.next t ds (call (.fn fn captured) (first++#[.func (.yield w.next) #[] #[]]) (w.push (.loop { state:=.ready,pending:=none,fn:=env.fn,tmps:=t,params,assign,body,defers:=d })))
   | _=>.fail "rangeFunc: function"
def acode (g:Prg) (call:CallF) (env:Env):Nat->Code->Tmps->List DI->AW->XR
 | 0,_,_,_,_=>.fail "fuel"
 | n + 1,c,t,ds,w =>
  match c with
  | .skip|.label _=>.go .normal t ds w
  | .region _ ops draw =>
   match hasDefer ops.toList with
   | true=>match draw with
    | false=>adops g call env ops ops.toList t ds w
    | true=>.fail "defer"
   | false =>
    match aregion g call ops draw t w with
    | .ok t w=>.go .normal t ds w
    | .pan v t w=>.go (.pan v) t ds w
    | .fail y=>.fail y
  | .seq a b =>
   match acode g call env n a t ds w with
   | .go .normal t ds w=>acode g call env n b t ds w
   | r=>r
  | .cond c a b =>
   match ev t c with
   | .bool true=>acode g call env n a t ds w
   | .bool false=>acode g call env n b t ds w
   | _=>.fail "cond"
  | .block id b =>
   match acode g call env n b t ds w with
   | .go (.exit id') t ds w=>match Nat.beq id' id with
    | true=>.go .normal t ds w
    | false=>.go (.exit id') t ds w
   | r=>r
  | .loop b =>
   match acode g call env n b t ds w with
   | .go .normal t ds w=>acode g call env n (.loop b) t ds w
   | r=>r
  | .scope b=>acode g call env n b t ds w
  | .exit id=>.go (.exit id) t ds w
  | .ret=>.go .ret t ds w
  | .goto _=>.fail "goto"
  | .refuse y=>.fail y
  | .rangeFunc f params assign body=>aloop call env f params assign body t ds w
def adefers (run:FuncId->Array Value->Option Value->AW->Option (Bool × AW)):Option Value->List DI->AW->Option (Option Value × AW)
 | pan,[],w=>some (pan,w)
 | pan,.mark b :: ds,w =>
  match w.blk b with
  | some (.deferred (some []))=>adefers run pan ds (w.put b (.deferred none))
  | _=>none
 | pan,.call f args cap :: ds,w =>
  match run f (args++cap) pan w with
  | some (true,w)=>adefers run none ds w
  | some (false,w)=>adefers run pan ds w
  | none=>none
def knownV:Option Value->Option Value
 | some (.tuple _)=>none
 | v=>v
def aresult (g:Prg) (sure:Bool) (t:Tmps) (w:AW):ResultVar->Option Value
 | .tmp i=>match sure with
  | true=>some (ev t (.tmp i))
  | false=>knownV (t.get i)
 | .cell a ty=>fast g t w (.load ty (.tmp a))
def aresults (g:Prg) (sure:Bool) (t:Tmps) (w:AW):List ResultVar->Option (List Value)
 | []=>some []
 | r :: l=>match aresult g sure t w r,aresults g sure t w l with
  | some v,some vs=>some (v :: vs)
  | _,_=>none
def tupled:List Value->Value
 | [v]=>v
 | vs=>.tuple vs.toArray
def exPan:Ex->Option Value
 | .pan v=>some v
 | _=>none
def isNone:Option Value->Bool
 | none=>true
 | some _=>false
abbrev DRunF:=FuncId->Array Value->Option Value->AW->Option (Bool × AW)
def aleave (g:Prg) (run:DRunF) (rs:List ResultVar) (pan:Option Value) (t:Tmps) (ds:List DI) (w:AW):CR :=
 match adefers run pan ds w with
 | none=>.fail "unwind"
 | some (some v,w)=>.pan v w
 | some (none,w)=>match aresults g (isNone pan) t w rs with
  | some vs=>.ret (tupled vs) w
  | none=>.fail "results"
def left (g:Prg) (run:DRunF) (rs:List ResultVar):XR->CR
 | .fail y=>.fail y
 | .go (.exit _) _ _ _=>.fail "exit"
 | .go e t ds w=>aleave g run rs (exPan e) t ds w
def adcode (g:Prg) (call:CallF) (env:Env) (F:Nat) (pan:Option Value):Code->Tmps->AW->Option Value × XR
 | .seq a b,t,w =>
  match adcode g call env F pan a t w with
  | (p,.go .normal t ds w)=>(p,acode g call env F b t ds w)
  | r=>r
 | .region id ops false,t,w =>
  match ops.toList with
  | ⟨dst,.call ⟨.builtin .recover,_,_⟩,_,_,_,none⟩ :: l =>
   (none,match aops g call ops l (putTmp t dst (pan.getD .nilIface)) w with
     | .ok t w=>.go .normal t [] w
     | .pan v t w=>.go (.pan v) t [] w
     | .fail y=>.fail y)
  | _=>(pan,acode g call env F (.region id ops false) t [] w)
 | c,t,w=>(pan,acode g call env F c t [] w)
def adeferred (g:Prg) (F:Nat) (call:CallF) (f:FuncId) (args:Array Value) (pan:Option Value) (w:AW):Option (Bool × AW) :=
 match g.fn f with
 | none=>none
 | some fn =>
  match fn.body with
  | none=>none
  | some c =>
   match Nat.ble args.size fn.ntmps with
   | false=>none
   | true =>
    match adcode g call { fn:=f,round:=none } F pan c (fillFrom 0 args.toList .leaf) w with
    | (p,r) =>
     match left g (fun _ _ _ _=>none) fn.results.toList r with
     | .ret _ w=>some (!isNone pan && isNone p,w)
     | _=>none
def aenter (g:Prg) (F:Nat) (call:CallF) (f:FuncId) (args:Array Value) (w:AW):CR :=
 match g.fn f with
 | none=>.fail "no function"
 | some fn =>
  match fn.body with
  | none=>.fail "no body"
  | some c =>
   match Nat.ble args.size fn.ntmps with
   | true=>left g (adeferred g F call) fn.results.toList (acode g call { fn:=f,round:=none } F c (fillFrom 0 args.toList .leaf) [] w)
   | false=>.fail "arguments"
def putAll:Tmps->List (Tmp × Value)->Tmps
 | t,[]=>t
 | t,(d,v) :: l=>putAll (t.set d v) l
def adone (l:Nat) (jump:Option Code) (ds:List DI) (w:AW):CR :=
 match ds,w.blk l with
 | [],some (.loop ⟨_,_,f,t,p,a,b,d⟩) =>
  match jump with
  | none=>.ret (.bool true) (w.put l (.loop ⟨.ready,none,f,t,p,a,b,d⟩))
  | some c=>.ret (.bool false) (w.put l (.loop ⟨.done,some c,f,t,p,a,b,d⟩))
 | _,_=>.fail "endRound"
def doneWith (l:Nat):XR->CR
 | .fail y=>.fail y
 | .go .normal _ ds w=>adone l none ds w
 | .go .ret _ ds w=>adone l (some .ret) ds w
 | .go (.exit id) _ ds w=>adone l (some (.exit id)) ds w
 | .go (.pan v) _ ds w=>match ds with
  | []=>.pan v w
  | _=>.fail "endRound"
def roundBody (g:Prg) (F:Nat) (call:CallF) (l:Nat) (f:FuncId) (body:Code):XR->CR
 | .go .normal t ds w =>
  match w.blk l with
  | some (.loop ⟨.ready,pending,f1,t1,p,a,b,d⟩) =>
   doneWith l (acode g call { fn:=f,round:=some l } F body t ds (w.put l (.loop ⟨.busy,pending,f1,t1,p,a,b,d⟩)))
  | _=>.fail "beginRound"
 | .go ..=>.fail "assign"
 | .fail y=>.fail y
def guardPan (g:Prg) (f:FuncId):CR->CR
 | .pan v w=>match g.fn f with
  | some _=>.pan v w
  | none=>.fail "round: no function"
 | .ret v w=>.ret v w
 | .fail y=>.fail y
def around (g:Prg) (F:Nat) (call:CallF) (l:Nat) (args:Array Value) (w:AW):CR :=
 match w.blk l with
 | some (.loop ⟨_,_,f,t,params,assign,body,_⟩) =>
  match Nat.beq args.size params.size with
  | false=>.fail "round"
  | true=>guardPan g f (roundBody g F call l f body (acode g call { fn:=f,round:=some l } F assign (putAll t (params.toList.zip args.toList)) [] w))
 | _=>.fail "round: no loop"
abbrev ToldF:=FuncId->Array Value->AW->Option (Value × AW)
def acall (g:Prg) (told:ToldF) (F:Nat):Nat->CallF
 | 0=>fun _ _ _=>.fail "depth"
 | n + 1=>fun t args w =>
  match t with
  | .fn (.func f) captured =>
   match told f (args++captured) w with
   | some (v,w)=>.ret v w
   | none=>aenter g F (acall g told F n) f (args++captured) w
  | .fn (.yield l) _=>around g F (acall g told F n) l args w
  | _=>.fail "target"
end Go.Sim

namespace Go.Sim
open Go Go.RowKit
namespace Trie
variable {α:Type}
theorem path_inj:∀ (n i j:Nat),i < 2 ^ n - 1->j < 2 ^ n - 1->path n i=path n j->i=j
 | 0,i,j,hi,_,_=>by simp at hi
 | n + 1, i,j,hi,hj,h=>by
  have e:2 ^ (n+1)=2 * 2 ^ n:=by rw[Nat.pow_succ];omega
  have hp:0 < 2 ^ n:=Nat.pow_pos (by omega)
  cases i with
  | zero=>cases j with
   | zero=>rfl
   | succ j=>simp only[path]at h;split at h <;> simp at h
  | succ i=>cases j with
   | zero=>simp only[path]at h;split at h <;> simp at h
   | succ j =>
    simp only[path]at h
    have key:Nat.div i 2=Nat.div j 2->i % 2=j % 2->i+1=j+1:=by
     intro a b
     have a':i / 2=j / 2:=a
     omega
    have rec':=path_inj n (Nat.div i 2) (Nat.div j 2) (by show i / 2 < _;omega) (by show j / 2 < _;omega)
    have mi:Nat.mod i 2=i % 2:=rfl
    have mj:Nat.mod j 2=j % 2:=rfl
    rw[mi,mj]at h
    split at h <;> split at h <;> simp only[List.cons.injEq,reduceCtorEq,false_and,true_and]at h
    . rename_i a _ b
      exact key (rec' h) (by have:=Nat.eq_of_beq_eq_true a;have:=Nat.eq_of_beq_eq_true b;omega)
    . rename_i a _ b
      exact key (rec' h) (by have:=Nat.ne_of_beq_eq_false a;have:=Nat.ne_of_beq_eq_false b;omega)
theorem getP_leaf (p:List Bool):getP p (.leaf:Trie α)=none:=by cases p <;> rfl
theorem getP_setP (x:α):∀ (q p:List Bool) (t:Trie α),getP p (setP x q t)=if p=q then some x else getP p t
 | [],p,t=>by
  cases t <;> cases p with
  | nil=>simp[setP,getP]
  | cons d p=>cases d <;> simp[setP,getP,getP_leaf]
 | d :: q,p,t=>by
  cases t with
  | leaf =>
   cases p with
   | nil=>cases d <;> simp[setP,getP]
   | cons e p=>cases d <;> cases e <;> simp[setP,getP,getP_setP x q,getP_leaf]
  | node v l r =>
   cases p with
   | nil=>cases d <;> simp[setP,getP]
   | cons e p=>cases d <;> cases e <;> simp[setP,getP,getP_setP x q]
theorem path_more:∀ (n m k:Nat),k < 2 ^ n - 1->n≤m->path m k=path n k
 | 0,m,k,h,_=>by simp at h
 | n+1,0,k,_,h=>by omega
 | n + 1,m+1,k,h,hm=>by
  have e:2 ^ (n+1)=2 * 2 ^ n:=by rw[Nat.pow_succ];omega
  have hp:0 < 2 ^ n:=Nat.pow_pos (by omega)
  cases k with
  | zero=>rfl
  | succ k =>
   have rec':=path_more n m (Nat.div k 2) (by show k / 2 < _;omega) (by omega)
   simp only[path,rec']
theorem way_at (k n:Nat) (h:k < 2 ^ n - 1):way k=path n k:=by
 have h2:k < 2 ^ (Nat.succ (Nat.log2 (Nat.succ k))) - 1:=by
  have:=Nat.lt_log2_self (n:=Nat.succ k)
  simp only[Nat.succ_eq_add_one]at this ⊢
  omega
 unfold way
 by_cases hle:n≤Nat.succ (Nat.log2 (Nat.succ k))
 . exact path_more _ _ _ h hle
 . exact (path_more _ _ _ h2 (by omega)).symm
theorem lt_pow (k:Nat):k < 2 ^ k:=Nat.lt_two_pow_self
theorem way_inj (i j:Nat) (h:way i=way j):i=j:=by
 have hi:i < 2 ^ (i+j+1) - 1:=by
  have h1:=lt_pow i
  have h2:2 ^ i * 2≤2 ^ (i+j+1):=by rw[<- Nat.pow_succ];exact Nat.pow_le_pow_right (by omega) (by omega)
  omega
 have hj:j < 2 ^ (i+j+1) - 1:=by
  have h1:=lt_pow j
  have h2:2 ^ j * 2≤2 ^ (i+j+1):=by rw[<- Nat.pow_succ];exact Nat.pow_le_pow_right (by omega) (by omega)
  omega
 rw[way_at i _ hi,way_at j _ hj]at h
 exact path_inj _ i j hi hj h
def In (_:Nat):Prop:=True
theorem in_ (k:Nat):In k:=trivial
theorem get_set (t:Trie α) (k j:Nat) (x:α) (_hk:In k) (_hj:In j):(t.set k x).get j=if j=k then some x else t.get j:=by
 unfold set get
 show getP (way j) (setP x (way k) t)=_
 rw[getP_setP]
 by_cases h:j=k
 . simp[h]
 . rw[if_neg h,if_neg (fun e=>h (way_inj j k e))]
theorem get_leaf (j:Nat):(.leaf:Trie α).get j=none:=getP_leaf _
theorem fillFrom_get:∀ (l:List α) (i:Nat) (t:Trie α) (j:Nat),In (i+l.length)->In j ->
    (fillFrom i l t).get j=if i≤j/\j < i+l.length then l[j - i]? else t.get j
 | [],i,t,j,_,_=>by simp[fillFrom];omega
 | v :: l,i,t,j,hi,hj=>by
  simp only[List.length_cons]at hi
  rw[fillFrom,fillFrom_get l (i+1) _ j (in_ _) hj,get_set _ _ _ _ (in_ _) hj]
  by_cases h:j=i
  . subst h;rw[if_neg (by omega),if_pos rfl,if_pos (by simp)];simp
  · by_cases h2:i+1≤j/\j < i+1+l.length
    . rw[if_pos h2,if_pos (by simp;omega)]
      obtain⟨m,rfl⟩:∃ m,j=i+1+m:=⟨j - (i+1),by omega⟩
      rw[show i+1+m - (i+1)=m from by omega,show i+1+m - i=m+1 from by omega];simp
    . rw[if_neg h2,if_neg h,if_neg (by simp;omega)]
end Trie
theorem getL_eq {α:Type}:∀ (l:List α) (n:Nat),getL l n=l[n]?
 | [],n=>by simp[getL]
 | x :: l,0=>by simp[getL]
 | x :: l,n+1=>by simp[getL,getL_eq l n]
theorem setL_eq {α:Type}:∀ (l:List α) (n:Nat) (y:α),setL l n y=l.set n y
 | [],n,y=>by simp[setL]
 | x :: l,0,y=>by simp[setL]
 | x :: l,n+1,y=>by simp[setL,setL_eq l n y]
theorem tysTo_get (p:Program):∀ (n:Nat) (t:Trie (Option TI)) (j:Nat),Trie.In n->Trie.In j ->
    (tysTo p n t).get j=if j < n then some (tyOf p j) else t.get j
 | 0,t,j,_,_=>by simp[tysTo]
 | n + 1,t,j,hn,hj=>by
  rw[tysTo,tysTo_get p n _ j (Trie.in_ _) hj,Trie.get_set _ _ _ _ (Trie.in_ _) hj]
  by_cases h:j=n
  . subst h;simp
  . by_cases h2:j < n
    . rw[if_pos h2,if_pos (by omega)]
    . rw[if_neg h2,if_neg h,if_neg (by omega)]
structure Loc where
 c:Nat
 s:Nat
 room:Nat
 z:Nat
abbrev Emb:=Nat->Option Loc
def Emb.le (σ τ:Emb):Prop:=∀ b x,σ b=some x->τ b=some x
theorem Emb.le.refl (σ:Emb):σ.le σ:=fun _ _ h=>h
theorem Emb.le.trans {σ τ υ:Emb} (h:σ.le τ) (k:τ.le υ):σ.le υ:=fun b x e=>k b x (h b x e)
inductive FnRel (σ:Emb):Fn->Fn->Prop where
 | func (f:FuncId):FnRel σ (.func f) (.func f)
 | method (s:String):FnRel σ (.method s) (.method s)
 | methodOf (t:TypeId) (s:String):FnRel σ (.methodOf t s) (.methodOf t s)
 | via (t:TypeId) (p:Array FieldStep) (f:FuncId) (q:Bool):FnRel σ (.via t p f q) (.via t p f q)
 | yield {l:Nat} {x:Loc} (h:σ l=some x):FnRel σ (.yield l) (.yield x.c)
inductive VRel (σ:Emb):Value->Value->Prop where
 | bool (b:Bool):VRel σ (.bool b) (.bool b)
 | int (k:IntKind) (n:Int):VRel σ (.int k n) (.int k n)
 | float (k:FloatKind) (n:Nat):VRel σ (.float k n) (.float k n)
 | complex (k:FloatKind) (n m:Nat):VRel σ (.complex k n m) (.complex k n m)
 | string (s:ByteArray):VRel σ (.string s) (.string s)
 | ptrNil:VRel σ (.pointer none) (.pointer none)
 | ptr {b o:Nat} {x:Loc} (h:σ b=some x):VRel σ (.pointer (some ⟨b,o,none⟩)) (.pointer (some ⟨x.c,x.s+o,none⟩))
 /-- A pointer into what is not looked at: a type's handle. -/
 | raw (c o:Nat):VRel σ (.pointer (some ⟨c,o,some 1⟩)) (.pointer (some ⟨c,o,none⟩))
 | sliceNil:VRel σ (.slice none 0 0) (.slice none 0 0)
 | slice {b o n k k':Nat} {x:Loc} (h:σ b=some x) (hk:k≤k') (hr:k'=k \/ (0 < x.z/\o+k' * x.z≤x.room)) :
     VRel σ (.slice (some ⟨b,o,none⟩) n k) (.slice (some ⟨x.c,x.s+o,none⟩) n k')
 /-- A slice of nothing,without room,behind a row that grew. -/
 | tail {b o:Nat} {x:Loc} (h:σ b=some x) (a:Addr):VRel σ (.slice (some ⟨b,o,none⟩) 0 0) (.slice (some a) 0 0)
 /-- A slice of nothing,at an address that is no cell's. -/
 | odd (a:Addr):VRel σ (.slice (some ⟨0,0,some 0⟩) 0 0) (.slice (some a) 0 0)
 | mapNil:VRel σ (.map none) (.map none)
 | map {b:Nat} {x:Loc} (h:σ b=some x):VRel σ (.map (some b)) (.map (some x.c))
 | chanNil:VRel σ (.chan none) (.chan none)
 | func {f g:Fn} {a b a' b':Array Value} (h:FnRel σ f g) (ha:a.size=a'.size) (hb:b.size=b'.size)
     (hav:∀ i,VRel σ (a.getD i undef) (a'.getD i undef)) (hbv:∀ i,VRel σ (b.getD i undef) (b'.getD i undef)):VRel σ (.func f a b) (.func g a' b')
 | nilFunc:VRel σ .nilFunc .nilFunc
 | iface (t:TypeId) {v u:Value} (h:VRel σ v u):VRel σ (.iface t v) (.iface t u)
 | nilIface:VRel σ .nilIface .nilIface
 | unit:VRel σ (.tuple #[]) (.tuple #[])
 | agg {a a':Array Value} (ha:a.size=a'.size) (hav:∀ i,VRel σ (a.getD i undef) (a'.getD i undef)):VRel σ (.agg a) (.agg a')
 | tuple {a a':Array Value} (ha:a.size=a'.size) (hav:∀ i,VRel σ (a.getD i undef) (a'.getD i undef)):VRel σ (.tuple a) (.tuple a')
structure ARel (σ:Emb) (a a':Array Value):Prop where
 size:a.size=a'.size
 at_:∀ i,VRel σ (a.getD i undef) (a'.getD i undef)
theorem VRel.undef (σ:Emb):VRel σ Go.undef Go.undef:=VRel.unit
theorem FnRel.mono {σ τ:Emb} (h:σ.le τ) {f g:Fn} (r:FnRel σ f g):FnRel τ f g:=by
 cases r with
 | yield e=>exact .yield (h _ _ e)
 | func=>exact .func _
 | method=>exact .method _
 | methodOf=>exact .methodOf _ _
 | via=>exact .via _ _ _ _
theorem VRel.mono {σ τ:Emb} (h:σ.le τ) {v u:Value} (r:VRel σ v u):VRel τ v u:=by
 induction r with
 | bool=>exact .bool _
 | int=>exact .int _ _
 | float=>exact .float _ _
 | complex=>exact .complex _ _ _
 | string=>exact .string _
 | ptrNil=>exact .ptrNil
 | ptr e=>exact .ptr (h _ _ e)
 | raw c o=>exact .raw c o
 | sliceNil=>exact .sliceNil
 | slice e hk hr=>exact .slice (h _ _ e) hk hr
 | tail e a=>exact .tail (h _ _ e) a
 | odd a=>exact .odd a
 | mapNil=>exact .mapNil
 | map e=>exact .map (h _ _ e)
 | chanNil=>exact .chanNil
 | func f ha hb _ _ iha ihb=>exact .func (f.mono h) ha hb iha ihb
 | nilFunc=>exact .nilFunc
 | iface t _ ih=>exact .iface t ih
 | nilIface=>exact .nilIface
 | unit=>exact .unit
 | agg ha _ ih=>exact .agg ha ih
 | tuple ha _ ih=>exact .tuple ha ih
theorem ARel.mono {σ τ:Emb} (h:σ.le τ) {a b:Array Value} (r:ARel σ a b):ARel τ a b:=⟨r.size,fun i=>(r.at_ i).mono h⟩
theorem VRel.oneCell {σ:Emb} {v u:Value} (r:VRel σ v u):Sim.oneCell v=Sim.oneCell u:=by cases r <;> rfl
inductive LRel (σ:Emb):List Value->List Value->Prop where
 | nil:LRel σ [] []
 | cons {v u:Value} {l m:List Value} (h:VRel σ v u) (t:LRel σ l m):LRel σ (v :: l) (u :: m)
theorem LRel.mono {σ τ:Emb} (h:σ.le τ) {a b:List Value} (r:LRel σ a b):LRel τ a b:=by
 induction r with
 | nil=>exact .nil
 | cons v _ ih=>exact .cons (v.mono h) ih
theorem LRel.length {σ:Emb} {a b:List Value} (r:LRel σ a b):a.length=b.length:=by
 induction r with
 | nil=>rfl
 | cons _ _ ih=>simp[ih]
theorem LRel.get {σ:Emb} {a b:List Value} (r:LRel σ a b) (i:Nat):VRel σ (a.getD i Go.undef) (b.getD i Go.undef):=by
 induction r generalizing i with
 | nil=>simpa using VRel.undef σ
 | cons v _ ih=>cases i with
  | zero=>simpa using v
  | succ i=>simpa using ih i
theorem LRel.of_get {σ:Emb}:∀ {a b:List Value},a.length=b.length->(∀ i,VRel σ (a.getD i Go.undef) (b.getD i Go.undef))->LRel σ a b
 | [],[],_,_=>.nil
 | x :: a,y :: b,h,g=>.cons (by simpa using g 0) (LRel.of_get (by simpa using h) fun i=>by simpa using g (i+1))
 | [],_ :: _,h,_=>by simp at h
 | _ :: _,[],h,_=>by simp at h
theorem LRel.append {σ:Emb} {a b c d:List Value} (r:LRel σ a b) (q:LRel σ c d):LRel σ (a++c) (b++d):=by
 induction r with
 | nil=>exact q
 | cons v _ ih=>exact .cons v ih
theorem ARel.iff {σ:Emb} {a b:Array Value}:ARel σ a b↔LRel σ a.toList b.toList:=by
 constructor
 . intro h
   refine LRel.of_get (by simpa using h.size) fun i=>?_
   have:=h.at_ i
   simpa [Array.getD_eq_getD_getElem?,List.getD_eq_getElem?_getD] using this
 . intro h
   refine⟨by simpa using h.length,fun i=>?_⟩
   have:=h.get i
   simpa [Array.getD_eq_getD_getElem?,List.getD_eq_getElem?_getD] using this
theorem VRel.agg_of {σ:Emb} {a b:Array Value} (h:ARel σ a b):VRel σ (.agg a) (.agg b):=.agg h.size h.at_
theorem VRel.tuple_of {σ:Emb} {a b:Array Value} (h:ARel σ a b):VRel σ (.tuple a) (.tuple b):=.tuple h.size h.at_
theorem VRel.cells {σ:Emb} {v u:Value} (r:VRel σ v u):ARel σ v.cells u.cells:=by
 have one:∀ {v u:Value},VRel σ v u->ARel σ #[v] #[u]:=fun {v u} r=>ARel.iff.2 (.cons r .nil)
 cases r with
 | agg ha hav=>exact⟨ha,hav⟩
 | bool=>exact one (.bool _)
 | int=>exact one (.int _ _)
 | float=>exact one (.float _ _)
 | complex=>exact one (.complex _ _ _)
 | string=>exact one (.string _)
 | ptrNil=>exact one .ptrNil
 | ptr e=>exact one (.ptr e)
 | raw c o=>exact one (.raw c o)
 | sliceNil=>exact one .sliceNil
 | slice e hk hr=>exact one (.slice e hk hr)
 | tail e a=>exact one (.tail e a)
 | odd a=>exact one (.odd a)
 | mapNil=>exact one .mapNil
 | map e=>exact one (.map e)
 | chanNil=>exact one .chanNil
 | func f ha hb h1 h2=>exact one (.func f ha hb h1 h2)
 | nilFunc=>exact one .nilFunc
 | iface t h=>exact one (.iface t h)
 | nilIface=>exact one .nilIface
 | unit=>exact one .unit
 | tuple ha hav=>exact one (.tuple ha hav)
end Go.Sim

namespace Go.Sim
open Go Go.RowKit
theorem AW.blk_put (w:AW) (b j:Nat) (x:Blk) (hb:Trie.In b) (hj:Trie.In j):(w.put b x).blk j=if j=b then some x else w.blk j:=by
 obtain⟨h,f,n⟩:=w;exact Trie.get_set h b j x hb hj
theorem AW.blk_push (w:AW) (j:Nat) (x:Blk) (hb:Trie.In w.next) (hj:Trie.In j):(w.push x).blk j=if j=w.next then some x else w.blk j:=by
 obtain⟨h,f,n⟩:=w;exact Trie.get_set h n j x hb hj
theorem AW.next_put (w:AW) (b:Nat) (x:Blk):(w.put b x).next=w.next:=by obtain⟨h,f,n⟩:=w;rfl
theorem AW.next_push (w:AW) (x:Blk):(w.push x).next=w.next+1:=by obtain⟨h,f,n⟩:=w;rfl
theorem AW.family_put (w:AW) (b r:Nat) (x:Blk):(w.put b x).family r=w.family r:=by obtain⟨h,f,n⟩:=w;rfl
theorem AW.family_push (w:AW) (r:Nat) (x:Blk):(w.push x).family r=w.family r:=by obtain⟨h,f,n⟩:=w;rfl
theorem AW.fams_put (w:AW) (b:Nat) (x:Blk):(w.put b x).fams=w.fams:=by obtain⟨h,f,n⟩:=w;rfl
theorem AW.family_eq (w w':AW) (h:w.fams=w'.fams) (r:Nat):w.family r=w'.family r:=by
 obtain⟨a,f,n⟩:=w;obtain⟨a',f',n'⟩:=w';simp only at h;subst h;rfl
structure Hit (me cls:Nat) (w w':AW):Prop where
 fams:w'.fams=w.fams
 next:w'.next=w.next
 blk:∀ b,Trie.In b->w'.blk b=w.blk b \/ (b ≠ me/\∃ c e r base z,w.blk b=some (.cells c e r base z)/\base≤cls/\w'.blk b=some (.cells (c.set (cls - base) struck) e r base z))
theorem Hit.refl (me cls:Nat) (w:AW):Hit me cls w w:=⟨rfl,rfl,fun _ _=>.inl rfl⟩
theorem Hit.trans {me cls:Nat} {a b c:AW} (h:Hit me cls a b) (k:Hit me cls b c):Hit me cls a c:=by
 refine⟨k.fams.trans h.fams,k.next.trans h.next,fun j hj=>?_⟩
 rcases h.blk j hj with e|⟨hn,c1,e1,r1,b1,z1,h1,h2,h3⟩
 . rcases k.blk j hj with e'|⟨hn',c1,e1,r1,b1,z1,h1,h2,h3⟩
   . exact .inl (e'.trans e)
   . exact .inr ⟨hn',c1,e1,r1,b1,z1,e ▸ h1,h2,h3⟩
 · rcases k.blk j hj with e'|⟨hn',c2,e2,r2,b2,z2,h1',h2',h3'⟩
   . exact .inr ⟨hn,c1,e1,r1,b1,z1,h1,h2,e'.trans h3⟩
   . rw[h3]at h1'
     injection h1' with h1';injection h1' with q1 q2 q3 q4 q5
     subst q1 q2 q3 q4 q5
     exact .inr ⟨hn,c1,e1,r1,b1,z1,h1,h2,by rw[h3'];simp⟩
theorem strike_hit (me cls:Nat) (w:AW) (b:Nat) (hb:Trie.In b):Hit me cls w (strike me cls w b):=by
 unfold strike
 split
 . exact .refl _ _ _
 · rename_i hs
   have hne:b ≠ me:=Nat.ne_of_beq_eq_false hs
   split
   · rename_i c e r base z hw
     split
     · rename_i hle
       split
       · refine ⟨AW.fams_put _ _ _,AW.next_put _ _ _,fun j hj=>?_⟩
         rw[AW.blk_put _ _ _ _ hb hj]
         by_cases h:j=b
         . subst h
           rw[if_pos rfl,setL_eq]
           exact .inr ⟨hne,c,e,r,base,z,hw,Nat.le_of_ble_eq_true hle,rfl⟩
         . rw[if_neg h];exact .inl rfl
       . exact .refl _ _ _
     . exact .refl _ _ _
   . exact .refl _ _ _
theorem strikes_hit (me cls:Nat):∀ (l:List Nat) (w:AW),(∀ b ∈ l,Trie.In b)->Hit me cls w (strikes me cls l w)
 | [],w,_=>.refl _ _ _
 | b :: l,w,h=>(strike_hit me cls w b (h b (by simp))).trans (strikes_hit me cls l _ fun x hx=>h x (by simp[hx]))
def Out (cls:Nat) (w:AW) (b:Nat):Prop:=∀ c e r base z,w.blk b=some (.cells c e r base z)->base≤cls->∀ v,c[cls - base]? = some v->oneCell v=false
theorem Out.hit {me cls:Nat} {w w':AW} {b:Nat} (hb:Trie.In b) (h:Out cls w b) (k:Hit me cls w w'):Out cls w' b:=by
 intro c e r base z hw hle v hv
 rcases k.blk b hb with q|⟨_,c1,e1,r1,b1,z1,h1,h2,h3⟩
 . exact h c e r base z (q ▸ hw) hle v hv
 · rw [h3]at hw
   injection hw with hw;injection hw with q1 q2 q3 q4 q5
   subst q1 q4
   rw[List.getElem?_set]at hv
   split at hv
   . split at hv
     . injection hv with hv;subst hv;rfl
     . cases hv
   . exact absurd rfl (by assumption)
theorem strike_out (me cls:Nat) (w:AW) (b:Nat) (hb:Trie.In b) (hne:b ≠ me):Out cls (strike me cls w b) b:=by
 intro c e r base z hw hle v hv
 unfold strike at hw
 rw[show Nat.beq b me=false from by cases h:Nat.beq b me with|false=>rfl|true=>exact absurd (Nat.eq_of_beq_eq_true h) hne]at hw
 simp only at hw
 split at hw
 · rename_i c1 e1 r1 base1 z1 hw1
   split at hw
   · split at hw
     . rw[AW.blk_put _ _ _ _ hb hb,if_pos rfl]at hw
       injection hw with hw;injection hw with q1 q2 q3 q4 q5
       subst q1 q4
       rw[setL_eq,List.getElem?_set]at hv
       simp only[if_true]at hv
       split at hv
       . injection hv with hv;subst hv;rfl
       . cases hv
     . rename_i hg
       rw[hw1]at hw
       injection hw with hw;injection hw with q1 q2 q3 q4 q5
       subst q1 q4
       rw[getL_eq]at hg
       rw[hg]at hv;cases hv
   . rename_i hg
     rw[hw1]at hw
     injection hw with hw;injection hw with q1 q2 q3 q4 q5
     subst q4
     have:Nat.ble base1 cls=true:=Nat.ble_eq_true_of_le hle
     rw[this]at hg;cases hg
 . rename_i hx
   exact absurd hw (hx _ _ _ _ _)
theorem strikes_out (me cls:Nat):∀ (l:List Nat) (w:AW),(∀ b ∈ l,Trie.In b)->∀ b ∈ l,b ≠ me->Out cls (strikes me cls l w) b
 | [],_,_,b,hb,_=>by simp at hb
 | a :: l,w,h,b,hb,hne=>by
  by_cases hba:b=a
  . subst hba
    exact (strike_out me cls w b (h b (by simp)) hne).hit (h b (by simp)) (strikes_hit me cls l _ fun x hx=>h x (by simp[hx]))
  · have hb':b ∈ l:=by
      rcases List.mem_cons.1 hb with e|e
      . exact absurd e hba
      . exact e
    exact strikes_out me cls l _ (fun x hx=>h x (by simp[hx])) b hb' hne
structure TRel (σ:Emb) (n:Nat) (t:Tmps) (ts:Array Value):Prop where
 size:ts.size=n
 at_:∀ i,i < n->VRel σ (ev t (.tmp i)) (ts.getD i undef)
theorem TRel.mono {σ τ:Emb} (h:σ.le τ) {n:Nat} {t:Tmps} {ts:Array Value} (r:TRel σ n t ts):TRel τ n t ts:=⟨r.size,fun i hi=>(r.at_ i hi).mono h⟩
def plain:Nat->Value->Bool
 | 0,_=>false
 | n+1,v=>match v with
  | .bool _|.int _ _|.float _ _|.complex _ _ _|.string _|.pointer none|.slice none 0 0|.map none|.chan none|.nilFunc|.nilIface=>true
  | .func (.func _) a b=>a.toList.all (plain n) && b.toList.all (plain n)
  | .iface _ v=>plain n v
  | .agg cs=>cs.toList.all (plain n)
  | .tuple cs=>cs.toList.all (plain n)
  | _=>false
theorem plain_list {n:Nat} (ih:∀ v,plain n v=true->∀ σ,VRel σ v v):∀ {l:List Value},l.all (plain n)=true->∀ σ,LRel σ l l
 | [],_,_=>.nil
 | v :: l,h,σ=>by
  simp only[List.all_cons,Bool.and_eq_true]at h
  exact .cons (ih v h.1 σ) (plain_list ih h.2 σ)
theorem plain_rel:∀ (n:Nat) (v:Value),plain n v=true->∀ σ,VRel σ v v
 | 0,_,h,_=>by simp[plain]at h
 | n + 1,v,h,σ=>by
  have ih:=plain_rel n
  unfold plain at h
  split at h
  . exact .bool _
  . exact .int _ _
  . exact .float _ _
  . exact .complex _ _ _
  . exact .string _
  . exact .ptrNil
  . exact .sliceNil
  . exact .mapNil
  . exact .chanNil
  . exact .nilFunc
  . exact .nilIface
  . simp only[Bool.and_eq_true]at h
    have ha:=ARel.iff.2 (plain_list ih h.1 σ)
    have hb:=ARel.iff.2 (plain_list ih h.2 σ)
    exact .func (.func _) rfl rfl ha.at_ hb.at_
  . exact .iface _ (ih _ h σ)
  . exact .agg_of (ARel.iff.2 (plain_list ih h σ))
  . exact .tuple_of (ARel.iff.2 (plain_list ih h σ))
  . cases h
def fits (n:Nat):Operand->Bool
 | .tmp i=>Nat.blt i n
 | .const v=>plain 8 v
 | .global _=>false
 | .func _=>true
def fitsOp (n:Nat) (o:Oper):Bool:=o.op.operands.toList.all (fits n) && (match o.dst with|some d=>Nat.blt d n|none=>true)
def fitsCode (n:Nat):Code->Bool
 | .region _ ops _=>ops.toList.all (fitsOp n)
 | .seq a b=>fitsCode n a && fitsCode n b
 | .cond c a b=>fits n c && fitsCode n a && fitsCode n b
 | .block _ b=>fitsCode n b
 | .loop b=>fitsCode n b
 | .scope b=>fitsCode n b
 | .rangeFunc f params assign body=>fits n f && params.toList.all (Nat.blt · n) && fitsCode n assign && fitsCode n body
 | _=>true
structure LoopRel (σ:Emb) (l:ALoop) (l':Loop):Prop where
 state:l'.state=l.state
 pending:l'.pending=l.pending
 fn:l'.fn=l.fn
 params:l'.params=l.params
 assign:l'.assign=l.assign
 body:l'.body=l.body
 small:Trie.In l'.tmps.size
 tmps:TRel σ l'.tmps.size l.tmps l'.tmps
 defers:∃ y,σ l.defers=some y/\l'.defers=y.c
 fits:l.params.toList.all (Nat.blt · l'.tmps.size)=true/\fitsCode l'.tmps.size l.assign=true/\fitsCode l'.tmps.size l.body=true
theorem LoopRel.mono {σ τ:Emb} (h:σ.le τ) {l:ALoop} {l':Loop} (r:LoopRel σ l l'):LoopRel τ l l' :=
 ⟨r.state,r.pending,r.fn,r.params,r.assign,r.body,r.small,r.tmps.mono h,let ⟨y,a,b⟩:=r.defers;⟨y,h _ _ a,b⟩,r.fits⟩
structure ERel (σ:Emb) (es es':Array MapEntry):Prop where
 size:es.size=es'.size
 at_:∀ i (h:i < es.size) (h':i < es'.size),VRel σ es[i].key es'[i].key/\VRel σ es[i].val es'[i].val/\es[i].born=es'[i].born
theorem ERel.mono {σ τ:Emb} (h:σ.le τ) {l l':Array MapEntry} (r:ERel σ l l'):ERel τ l l' :=
 ⟨r.size,fun i a b=>let ⟨x,y,z⟩:=r.at_ i a b;⟨x.mono h,y.mono h,z⟩⟩
def BRel (σ:Emb) (heap:Array Obj) (x:Loc):Blk->Prop
 | .cells c _ _ _ z=>x.z=z/\c.length≤x.room/\∃ cc ce,heap[x.c]? = some (.cells cc ce (0,0))/\cc.size=x.s+x.room /\
     ∀ o v,c[o]? = some v->oneCell v=true->∃ v',cc[x.s+o]? = some v'/\VRel σ v v'
 | .given c=>∀ o v,c[o]? = some v->oneCell v=true->∃ cc ce fr v',heap[x.c]? = some (.cells cc ce fr)/\cc[x.s+o]? = some v'/\VRel σ v v'
 | .map es clock=>∃ es',heap[x.c]? = some (.map es' clock)/\ERel σ es es'
 | .loop l=>∃ l',heap[x.c]? = some (.loop l')/\LoopRel σ l l'
 | .deferred d=>match d with
  | some []=>heap[x.c]? = some (.deferred (some []))
  | none=>heap[x.c]? = some (.deferred none)
  | _=>False
theorem BRel.mono {σ τ:Emb} (h:σ.le τ) {heap:Array Obj} {x:Loc} {k:Blk} (r:BRel σ heap x k):BRel τ heap x k:=by
 cases k with
 | cells c e r0 b z =>
  obtain⟨a,b,cc,ce,q,s,g⟩:=r
  exact⟨a,b,cc,ce,q,s,fun o v ho hv=>let ⟨v',x,y⟩:=g o v ho hv;⟨v',x,y.mono h⟩⟩
 | given c=>exact fun o v ho hv=>let ⟨cc,ce,fr,v',q,x,y⟩:=r o v ho hv;⟨cc,ce,fr,v',q,x,y.mono h⟩
 | map es clock=>obtain⟨es',a,b⟩:=r;exact⟨es',a,b.mono h⟩
 | loop l=>obtain⟨es',a,b⟩:=r;exact⟨es',a,b.mono h⟩
 | deferred d=>exact r
theorem BRel.heap {σ:Emb} {heap heap':Array Obj} {x:Loc} {k:Blk} (r:BRel σ heap x k) (h:heap'[x.c]? = heap[x.c]?):BRel σ heap' x k:=by
 cases k with
 | cells c e r0 b z =>
  obtain⟨a,b,cc,ce,q,s,g⟩:=r
  exact⟨a,b,cc,ce,h.trans q,s,g⟩
 | given c=>exact fun o v ho hv=>let ⟨cc,ce,fr,v',q,x,y⟩:=r o v ho hv;⟨cc,ce,fr,v',h.trans q,x,y⟩
 | map es clock=>obtain⟨es',a,b⟩:=r;exact⟨es',h.trans a,b⟩
 | loop l=>obtain⟨es',a,b⟩:=r;exact⟨es',h.trans a,b⟩
 | deferred d =>
  unfold BRel at r ⊢
  split <;> simp_all
def isCells:Blk->Bool
 | .cells ..|.given _=>true
 | _=>false
def Lies (N:Nat) (x:Loc):Blk->Prop
 | .given c=>x.z=0/\(c=[] \/ x.c < N)
 | _=>N≤x.c
structure WRel (N:Nat) (σ:Emb) (w:AW) (W:World):Prop where
 wf:∀ b k,Trie.In b->w.blk b=some k->b < w.next
 lim:True
 dom:∀ b x,σ b=some x->b < w.next/\∃ k,w.blk b=some k/\Lies N x k/\BRel σ W.heap x k
 inj:∀ b b' x x',σ b=some x->σ b'=some x'->x.c=x'.c->b ≠ b'->(∃ c,w.blk b=some (.given c)) \/ (∃ c,w.blk b'=some (.given c)) \/
  ∃ c e r base z c' e' base' z',w.blk b=some (.cells c e r base z)/\w.blk b'=some (.cells c' e' r base' z')/\x.s+base'=x'.s+base
 fam:∀ b c e r base z,Trie.In b->w.blk b=some (.cells c e r base z)->b ∈ w.family r \/ (b=r/\w.family r=[])
 root:∀ b c e r base z,Trie.In b->w.blk b=some (.cells c e r base z)->r < w.next
 famIn:∀ r b,Trie.In r->b ∈ w.family r->∃ x,σ b=some x
 famKey:∀ r,Trie.In r->w.next≤r->w.family r=[]
 old:N≤W.heap.size
theorem WRel.small {N:Nat} {σ:Emb} {w:AW} {W:World} (_h:WRel N σ w W) {b:Nat} (_hb:b < w.next):Trie.In b:=Trie.in_ _
theorem WRel.dlim {N:Nat} {σ:Emb} {w:AW} {W:World} (h:WRel N σ w W) {b:Nat} {x:Loc} (hb:σ b=some x):Trie.In b:=h.small (h.dom b x hb).1
structure BelowD (B:Nat) (w w':World):Prop extends Below B w w' where
 drawn:w.drawn≤w'.drawn
theorem BelowD.refl (B:Nat) (w:World):BelowD B w w:=⟨Below.refl B w,Nat.le_refl _⟩
theorem BelowD.trans {B:Nat} {a b c:World} (h:BelowD B a b) (k:BelowD B b c):BelowD B a c:=⟨h.toBelow.trans k.toBelow,Nat.le_trans h.drawn k.drawn⟩
theorem BelowD.mono {B B':Nat} {w w':World} (h:BelowD B w w') (hB:B'≤B):BelowD B' w w':=⟨h.toBelow.mono hB,h.drawn⟩
theorem BelowD.drew {B:Nat} {a w:World} (h:BelowD B a w):BelowD B a w.drew:=⟨h.toBelow.drew,Nat.le_trans h.drawn (Nat.le_succ _)⟩
theorem BelowD.alloc {B:Nat} {a w:World} (h:BelowD B a w) (hB:B≤w.heap.size) (o:Obj):BelowD B a (w.alloc o):=⟨h.toBelow.alloc hB o,h.drawn⟩
theorem BelowD.setCell {B:Nat} {a w:World} (h:BelowD B a w) {p:Addr} (hp:B≤p.block) (u:Value):BelowD B a (w.setCell p u):=⟨h.toBelow.setCell hp u,h.drawn⟩
structure Ext (N:Nat) (σ:Emb) (w:AW) (W:World) (σ':Emb) (w':AW) (W':World):Prop where
 le:σ.le σ'
 rel:WRel N σ' w' W'
 below:BelowD N W W'
 next:w.next≤w'.next
 un:∀ b,b < w.next->σ b=none->σ' b=none/\w'.blk b=w.blk b
theorem Ext.refl {N:Nat} {σ:Emb} {w:AW} {W:World} (h:WRel N σ w W):Ext N σ w W σ w W :=
 ⟨.refl σ,h,.refl _ _,Nat.le_refl _,fun _ _ h=>⟨h,rfl⟩⟩
theorem Ext.trans {N:Nat} {σ σ' σ'':Emb} {w w' w'':AW} {W W' W'':World} (h:Ext N σ w W σ' w' W') (k:Ext N σ' w' W' σ'' w'' W''):Ext N σ w W σ'' w'' W'' :=
 ⟨h.le.trans k.le,k.rel,h.below.trans k.below,Nat.le_trans h.next k.next,fun b hb hn =>
   let ⟨a,c⟩:=h.un b hb hn
   let ⟨a',c'⟩:=k.un b (Nat.lt_of_lt_of_le hb h.next) a
   ⟨a',c'.trans c⟩⟩
structure Alike (w w':AW):Prop where
 fams:w'.fams=w.fams
 next:w'.next=w.next
 blk:∀ b,Trie.In b->w'.blk b=w.blk b \/ (∃ c c' e r base z,w.blk b=some (.cells c e r base z)/\w'.blk b=some (.cells c' e r base z)/\c'.length=c.length) \/
  (∃ k k',w.blk b=some k/\w'.blk b=some k'/\isCells k=false/\isCells k'=false)
theorem Lies.own {N:Nat} {x:Loc} {k:Blk} (h:Lies N x k) (hk:∀ c,k ≠ .given c):N≤x.c:=by
 cases k with
 | given c=>exact absurd rfl (hk c)
 | cells=>exact h
 | map=>exact h
 | loop=>exact h
 | deferred=>exact h
theorem Lies.of {N:Nat} {x:Loc} {k:Blk} (h:N≤x.c) (hk:∀ c,k ≠ .given c):Lies N x k:=by
 cases k with
 | given c=>exact absurd rfl (hk c)
 | cells=>exact h
 | map=>exact h
 | loop=>exact h
 | deferred=>exact h
theorem not_given {k:Blk} (h:isCells k=false) (c:List Value):k ≠ .given c:=fun e=>by subst e;cases h
theorem Alike.refl (w:AW):Alike w w:=⟨rfl,rfl,fun _ _=>.inl rfl⟩
theorem Alike.trans {a b c:AW} (h:Alike a b) (k:Alike b c):Alike a c:=by
 refine⟨k.fams.trans h.fams,k.next.trans h.next,fun j hj=>?_⟩
 rcases h.blk j hj with e|⟨c1,c2,e1,r1,b1,z1,h1,h2,h3⟩|⟨k1,k2,h1,h2,h3,h4⟩
 . rw[<- e];exact k.blk j hj
 · rcases k.blk j hj with e'|⟨c3,c4,e2,r2,b2,z2,h1',h2',h3'⟩|⟨k1,k2,h1',h2',h3',h4'⟩
   . exact .inr (.inl ⟨c1,c2,e1,r1,b1,z1,h1,e'.trans h2,h3⟩)
   . rw[h2]at h1'
     injection h1' with h1';injection h1' with q1 q2 q3 q4 q5
     subst q1 q2 q3 q4 q5
     exact .inr (.inl ⟨c1,c4,e1,r1,b1,z1,h1,h2',h3'.trans h3⟩)
   . rw[h2]at h1';injection h1' with h1';subst h1';cases h3'
 . rcases k.blk j hj with e'|⟨c3,c4,e2,r2,b2,z2,h1',h2',h3'⟩|⟨k3,k4,h1',h2',h3',h4'⟩
   . exact .inr (.inr ⟨k1,k2,h1,e'.trans h2,h3,h4⟩)
   . rw[h2]at h1';injection h1' with h1';subst h1';cases h4
   . exact .inr (.inr ⟨k1,k4,h1,h2',h3,h4'⟩)
theorem Hit.alike {me cls:Nat} {w w':AW} (h:Hit me cls w w'):Alike w w' :=
 ⟨h.fams,h.next,fun j hj=>(h.blk j hj).imp id fun ⟨_,c,e,r,base,z,h1,_,h3⟩=>.inl ⟨c,_,e,r,base,z,h1,h3,by simp⟩⟩
theorem WRel.of_alike {N:Nat} {σ:Emb} {w w':AW} {W W':World} (h:WRel N σ w W) (a:Alike w w') (hN:N≤W'.heap.size)
    (dom:∀ b x,σ b=some x->∃ k,w'.blk b=some k/\BRel σ W'.heap x k):WRel N σ w' W':=by
 have back:∀ j,Trie.In j->∀ c e r base z,w'.blk j=some (.cells c e r base z)->∃ c',w.blk j=some (.cells c' e r base z):=by
  intro j hj c e r base z hw
  rcases a.blk j hj with q|⟨c1,c2,e1,r1,b1,z1,h1,h2,_⟩|⟨k1,k2,h1,h2,h3,h4⟩
  . exact⟨c,q ▸ hw⟩
  . rw[h2]at hw;injection hw with hw;injection hw with q1 q2 q3 q4 q5
    subst q1 q2 q3 q4 q5;exact⟨c1,h1⟩
  . rw[h2]at hw;injection hw with hw;subst hw;cases h4
 have forth:∀ j,Trie.In j->∀ c e r base z,w.blk j=some (.cells c e r base z)->∃ c',w'.blk j=some (.cells c' e r base z):=by
  intro j hj c e r base z hw
  rcases a.blk j hj with q|⟨c1,c2,e1,r1,b1,z1,h1,h2,_⟩|⟨k1,k2,h1,h2,h3,h4⟩
  . exact⟨c,q.trans hw⟩
  . rw[h1]at hw;injection hw with hw;injection hw with q1 q2 q3 q4 q5
    subst q1 q2 q3 q4 q5;exact⟨c2,h2⟩
  . rw[h1]at hw;injection hw with hw;subst hw;cases h3
 have given:∀ j,Trie.In j->∀ c,w.blk j=some (.given c)->w'.blk j=some (.given c):=by
  intro j hj c hw
  rcases a.blk j hj with q|⟨c1,c2,e1,r1,b1,z1,h1,h2,_⟩|⟨k1,k2,h1,h2,h3,h4⟩
  . exact q.trans hw
  . rw[h1]at hw;cases hw
  . rw[h1]at hw;injection hw with hw;subst hw;cases h3
 have hf:∀ r,w'.family r=w.family r:=fun r=>AW.family_eq _ _ a.fams r
 refine⟨?_,trivial,fun b x hb=>?_,?_,?_,fun b c e r base z hb hw=>by obtain⟨c',hc'⟩:=back b hb _ _ _ _ _ hw;rw[a.next];exact h.root b c' e r base z hb hc',fun r b hr hb=>h.famIn r b hr (hf r ▸ hb),fun r hr hn=>by rw[hf];exact h.famKey r hr (by rw[a.next]at hn;exact hn),hN⟩
 . intro b k hb hk
   rw[a.next]
   rcases a.blk b hb with q|⟨c1,c2,e1,r1,b1,z1,h1,h2,_⟩|⟨k1,k2,h1,h2,h3,h4⟩
   . exact h.wf b k hb (q ▸ hk)
   . exact h.wf b _ hb h1
   . exact h.wf b _ hb h1
 · obtain ⟨k',hk',hr'⟩:=dom b x hb
   obtain⟨lt,k,hk,hl,_⟩:=h.dom b x hb
   refine⟨by rw[a.next];exact lt,k',hk',?_,hr'⟩
   rcases a.blk b (h.dlim hb)with q|⟨c1,c2,e1,r1,b1,z1,h1,h2,_⟩|⟨k1,k2,h1,h2,h3,h4⟩
   . rw[hk',hk]at q;injection q with q;subst q;exact hl
   . rw[hk']at h2;injection h2 with h2;subst h2
     rw[hk]at h1;injection h1 with h1;subst h1
     exact hl
   . rw[hk']at h2;injection h2 with h2;subst h2
     rw[hk]at h1;injection h1 with h1;subst h1
     exact Lies.of (hl.own (not_given h3)) (not_given h4)
 . intro b b' x x' hb hb' hc hne
   rcases h.inj b b' x x' hb hb' hc hne with ⟨c,hg⟩|⟨c,hg⟩|⟨c,e,r,base,z,c',e',base',z',h1,h2,h3⟩
   . exact .inl ⟨c,given b (h.dlim hb) c hg⟩
   . exact .inr (.inl ⟨c,given b' (h.dlim hb') c hg⟩)
   refine .inr (.inr ?_)
   obtain⟨d,hd⟩:=forth b (h.dlim hb) _ _ _ _ _ h1
   obtain⟨d',hd'⟩:=forth b' (h.dlim hb') _ _ _ _ _ h2
   exact⟨d,e,r,base,z,d',e',base',z',hd,hd',h3⟩
 . intro b c e r base z hb hw
   obtain⟨c',hc'⟩:=back b hb _ _ _ _ _ hw
   rw[hf];exact h.fam b c' e r base z hb hc'
theorem WRel.cell {N:Nat} {σ:Emb} {w:AW} {W:World} (h:WRel N σ w W) {b o:Nat} {x:Loc} {v:Value} (hb:σ b=some x)
    (hc:w.cell? ⟨b,o,none⟩=some v):∃ v',W.cell? ⟨x.c,x.s+o,none⟩=some v'/\VRel σ v v'/\oneCell v=true:=by
 obtain⟨_,k,hk,_,hr⟩:=h.dom b x hb
 unfold AW.cell? at hc
 simp only[hk]at hc
 cases k with
 | cells c e r base z =>
  simp only[getL_eq]at hc
  split at hc
  · rename_i u hu
    split at hc
    . rename_i ho
      injection hc with hc;subst hc
      obtain⟨_,_,cc,ce,q,_,g⟩:=hr
      obtain⟨v',hv',hrel⟩:=g o u hu ho
      exact⟨v',by simp[World.cell?,q,hv'],hrel,ho⟩
    . cases hc
  . cases hc
 | given c =>
  simp only[getL_eq]at hc
  split at hc
  · rename_i u hu
    split at hc
    . rename_i ho
      injection hc with hc;subst hc
      obtain⟨cc,ce,fr,v',q,hv',hrel⟩:=hr o u hu ho
      exact⟨v',by simp[World.cell?,q,hv'],hrel,ho⟩
    . cases hc
  . cases hc
 | map=>simp at hc
 | loop=>simp at hc
 | deferred=>simp at hc
theorem World.heap_setCell (W:World) (c o:Nat) (v:Value) (k:Nat):(W.setCell ⟨c,o,none⟩ v).heap[k]? =
    if c=k then (W.heap[k]?).map (fun|.cells d e f=>.cells (d.setIfInBounds o v) e f|o=>o) else W.heap[k]?:=by
 simp only[World.setCell,Array.getElem?_modify]
 split
 . rename_i e;subst e
   congr 1
 . rfl
theorem WRel.store {N:Nat} {σ:Emb} {w w':AW} {W:World} (h:WRel N σ w W) {b o:Nat} {x:Loc} {v v':Value} (hb:σ b=some x)
    (hv:VRel σ v v') (hs:w.store ⟨b,o,none⟩ v=some w') :
    oneCell v'=true/\(∃ u,W.cell? ⟨x.c,x.s+o,none⟩=some u)/\W.frozen? ⟨x.c,x.s+o,none⟩=false/\Ext N σ w W σ w' (W.setCell ⟨x.c,x.s+o,none⟩ v'):=by
 obtain⟨hbn,k,hk,hlies,hr⟩:=h.dom b x hb
 have hbl:=h.dlim hb
 unfold AW.store at hs
 split at hs
 case h_1=>cases hs
 rename_i hone
 simp only[hk]at hs
 cases k with
 | given=>simp at hs
 | map=>simp at hs
 | loop=>simp at hs
 | deferred=>simp at hs
 | cells c e r base z =>
  simp only[getL_eq,setL_eq]at hs
  split at hs
  case h_2=>cases hs
  rename_i old hold
  injection hs with hs
  have hN:N≤x.c:=hlies
  have hol:o < c.length:=by
   rcases Nat.lt_or_ge o c.length with q|q
   . exact q
   . rw[List.getElem?_eq_none q]at hold;cases hold
  obtain⟨hz,hroom,cc,ce,hq,hsz,g⟩:=hr
  have hcs:x.s+o < cc.size:=by omega
  have hrl:Trie.In r:=h.small (h.root b c e r base z hbl hk)
  have hfl:∀ j ∈ w.family r,Trie.In j:=fun j hj=>let ⟨y,hy⟩:=h.famIn r j hrl hj;h.dlim hy
  have b1:∀ j,Trie.In j->(w.put b (.cells (c.set o v) e r base z)).blk j=if j=b then some (.cells (c.set o v) e r base z) else w.blk j:=fun j hj=>AW.blk_put _ _ _ _ hbl hj
  have hit:=strikes_hit b (base+o) (w.family r) (w.put b (.cells (c.set o v) e r base z)) hfl
  have out:=strikes_out b (base+o) (w.family r) (w.put b (.cells (c.set o v) e r base z)) hfl
  rw[hs]at hit out
  have al:Alike w (w.put b (.cells (c.set o v) e r base z)):=by
   refine⟨AW.fams_put _ _ _,AW.next_put _ _ _,fun j hj=>?_⟩
   rw[b1 j hj]
   by_cases hjb:j=b
   . subst hjb;rw[if_pos rfl];exact .inr (.inl ⟨c,_,e,r,base,z,hk,rfl,by simp⟩)
   . rw[if_neg hjb];exact .inl rfl
  have alike:Alike w w':=al.trans hit.alike
  have hwb:w'.blk b=some (.cells (c.set o v) e r base z):=by
   rcases hit.blk b hbl with q|⟨hn,_⟩
   . rw[q,b1 b hbl,if_pos rfl]
   . exact absurd rfl hn
  have hheap:=World.heap_setCell W x.c (x.s+o) v'
  refine⟨by rw[<- hv.oneCell];exact hone,⟨cc[x.s+o],by simp[World.cell?,hq,hcs]⟩,by simp[World.frozen?,hq],?_⟩
  have rel : WRel N σ w' (W.setCell ⟨x.c,x.s+o,none⟩ v'):=by
   refine h.of_alike alike (by simp[World.setCell];exact h.old) fun j y hj=>?_
   obtain⟨_,kj,hkj,hlj,hrj⟩:=h.dom j y hj
   have hjl:=h.dlim hj
   by_cases hjb:j=b
   · subst hjb
     obtain rfl:y=x:=Option.some.inj (hj.symm.trans hb)
     refine⟨_,hwb,hz,by simpa using hroom,cc.setIfInBounds (y.s+o) v',ce,?_,by simpa using hsz,fun o' u ho' hu=>?_⟩
     . rw[hheap,if_pos rfl,hq];rfl
     · rw [List.getElem?_set]at ho'
       by_cases hoo:o=o'
       . subst hoo
         rw[if_pos rfl,if_pos hol]at ho'
         injection ho' with ho';subst ho'
         exact⟨v',by simp[hcs],hv⟩
       . rw[if_neg hoo]at ho'
         obtain⟨u',hu',hur⟩:=g o' u ho' hu
         exact⟨u',by rw[Array.getElem?_setIfInBounds];rw[if_neg (by omega)];exact hu',hur⟩
   · -- another block
     by_cases hgj:∃ c,kj=.given c
     · obtain ⟨c2,rfl⟩:=hgj
       refine⟨.given c2,?_,fun o' u ho' hu=>?_⟩
       . rcases hit.blk j hjl with q|⟨_,c1,e1,r1,bb,z1,h1,h2,h3⟩
         . rw[b1 j hjl,if_neg hjb,hkj]at q;exact q
         . rw[b1 j hjl,if_neg hjb,hkj]at h1;cases h1
       · obtain ⟨cc2,ce2,fr2,v2,q1,q2,q3⟩:=hrj o' u ho' hu
         refine⟨cc2,ce2,fr2,v2,?_,q2,q3⟩
         rw[hheap,if_neg]
         . exact q1
         . rcases hlj.2 with e|e
           . subst e;simp at ho'
           . intro e2;omega
     by_cases hcc:y.c=x.c
     · -- it may lie over the same cells
       rcases h.inj j b y x hj hb hcc hjb with ⟨c2,q2⟩|⟨c2,q2⟩|⟨c2,e2,r2,base2,z2,c3,e3,base3,z3,q2,q3,q4⟩
       . exact absurd ⟨c2,Option.some.inj (hkj.symm.trans q2)⟩ hgj
       . rw[hk]at q2;cases q2
       rw[hk]at q3
       injection q3 with q3;injection q3 with p1 p2 p3 p4 p5
       subst p1 p2 p3 p4 p5
       rw[hkj]at q2
       injection q2 with q2;subst q2
       obtain⟨hz2,hroom2,cc2,ce2,hq2,hsz2,g2⟩:=hrj
       rw[hcc,hq]at hq2
       injection hq2 with hq2;injection hq2 with p1 p2 p3
       subst p1 p2
       have jin:j ∈ w.family r:=by
        rcases h.fam j c2 e2 r base2 z2 hjl hkj with q|⟨q,q'⟩
        . exact q
        . rcases h.fam b c e r base z hbl hk with s|⟨s,s'⟩
          . rw[q']at s;cases s
          . exact absurd (q.trans s.symm) hjb
       have hout:=out j jin hjb
       obtain ⟨c4,hc4⟩:∃ c4,w'.blk j=some (.cells c4 e2 r base2 z2)/\c4.length=c2.length/\(∀ o' u,c4[o']? = some u->oneCell u=true->c2[o']? = some u):=by
        rcases hit.blk j hjl with q|⟨_,c1,e1,r1,bb,z1,h1,h2,h3⟩
        . rw[b1 j hjl,if_neg hjb,hkj]at q
          exact⟨c2,q,rfl,fun _ _ q _=>q⟩
        · rw [b1 j hjl,if_neg hjb,hkj]at h1
          injection h1 with h1;injection h1 with p1 p2 p3 p4 p5
          subst p1 p2 p3 p4 p5
          refine⟨_,h3,by simp,fun o' u ho' hu=>?_⟩
          rw[List.getElem?_set]at ho'
          split at ho'
          . split at ho'
            . injection ho' with ho';subst ho';cases hu
            . cases ho'
          . exact ho'
       obtain⟨hw4,hl4,hkeep⟩:=hc4
       refine⟨_,hw4,hz2,by rw[hl4];exact hroom2,cc.setIfInBounds (x.s+o) v',ce,?_,by simpa using hsz2,fun o' u ho' hu=>?_⟩
       . rw[hheap,if_pos hcc.symm,hcc,hq];rfl
       · obtain ⟨u',hu',hur⟩:=g2 o' u (hkeep o' u ho' hu) hu
         refine⟨u',?_,hur⟩
         rw[Array.getElem?_setIfInBounds,if_neg ?_]
         . exact hu'
         . intro hbad
           have hle:base2≤base+o:=by omega
           have he:base+o - base2=o':=by omega
           have:=hout c4 e2 r base2 z2 hw4 hle u (by rw[he];exact ho')
           rw[this]at hu;cases hu
     · -- its cells are elsewhere
       have hsame:(W.setCell ⟨x.c,x.s+o,none⟩ v').heap[y.c]? = W.heap[y.c]?:=by rw[hheap,if_neg (fun q=>hcc q.symm)]
       have hr':=hrj.heap hsame
       rcases hit.blk j hjl with q|⟨_,c1,e1,r1,bb,z1,h1,h2,h3⟩
       . rw[b1 j hjl,if_neg hjb,hkj]at q
         exact⟨_,q,hr'⟩
       · rw [b1 j hjl,if_neg hjb,hkj]at h1
         injection h1 with h1
         subst h1
         obtain⟨hz2,hroom2,cc2,ce2,hq2,hsz2,g2⟩:=hr'
         refine⟨_,h3,hz2,by simpa using hroom2,cc2,ce2,hq2,hsz2,fun o' u ho' hu=>?_⟩
         rw[List.getElem?_set]at ho'
         split at ho'
         . split at ho'
           . injection ho' with ho';subst ho';cases hu
           . cases ho'
         . exact g2 o' u ho' hu
  refine⟨.refl σ,rel,(BelowD.refl N W).setCell hN v',by rw[alike.next];exact Nat.le_refl _,fun j hj hn=>⟨hn,?_⟩⟩
  have hjl:Trie.In j:=h.small hj
  have hjb:j ≠ b:=fun q=>by subst q;rw[hb]at hn;cases hn
  have jnot:j ∉ w.family r:=fun q=>by obtain⟨y,hy⟩:=h.famIn r j hrl q;rw[hy]at hn;cases hn
  have key : ∀ (l:List Nat) (u:AW),(∀ i ∈ l,Trie.In i)->j ∉ l->(strikes b (base+o) l u).blk j=u.blk j:=by
   intro l
   induction l with
   | nil=>intro u _ _;rfl
   | cons a l ih =>
    intro u hl hj'
    simp only[List.mem_cons,not_or]at hj'
    rw[strikes,ih _ (fun i hi=>hl i (by simp[hi])) hj'.2]
    unfold strike
    split
    . rfl
    · split
      · split
        . split
          . rw[AW.blk_put _ _ _ _ (hl a (by simp)) hjl,if_neg hj'.1]
          . rfl
        . rfl
      . rfl
  rw[<- hs,key _ _ hfl jnot,b1 j hjl,if_neg hjb]
theorem WRel.push {N:Nat} {σ:Emb} {w:AW} {W:World} (h:WRel N σ w W) (_hn:True) (k:Blk) (hk:∀ c e r base z,k=.cells c e r base z->r=w.next) :
    WRel N σ (w.push k) W:=by
 have hl:Trie.In w.next:=Trie.in_ _
 have hb:∀ j,Trie.In j->(w.push k).blk j=if j=w.next then some k else w.blk j:=fun j hj=>AW.blk_push w j k hl hj
 have hne:∀ j x,σ j=some x->j ≠ w.next:=fun j x hj q=>by have:=(h.dom j x hj).1;omega
 refine ⟨fun j k' hj hk'=>?_,trivial,fun j x hj=>?_,fun j j' x x' hj hj' hc hjj=>?_,fun j c e r base z hj hw=>?_,fun j c e r base z hj hw=>?_,fun r j hr hj=>h.famIn r j hr (by rw[AW.family_push]at hj;exact hj),
  fun r hr hr'=>by rw[AW.family_push];exact h.famKey r hr (by rw[AW.next_push]at hr';omega),h.old⟩
 . rw[AW.next_push];rw[hb j hj]at hk'
   split at hk'
   . omega
   . have:=h.wf j k' hj hk';omega
 . obtain⟨a,k',hk',b,hr⟩:=h.dom j x hj
   exact⟨by rw[AW.next_push];omega,k',by rw[hb j (h.dlim hj),if_neg (hne j x hj)];exact hk',b,hr⟩
 . rcases h.inj j j' x x' hj hj' hc hjj with ⟨c,hg⟩|⟨c,hg⟩|⟨c,e,r,base,z,c',e',base',z',h1,h2,h3⟩
   . exact .inl ⟨c,by rw[hb j (h.dlim hj),if_neg (hne j x hj)];exact hg⟩
   . exact .inr (.inl ⟨c,by rw[hb j' (h.dlim hj'),if_neg (hne j' x' hj')];exact hg⟩)
   refine .inr (.inr ?_)
   exact⟨c,e,r,base,z,c',e',base',z',by rw[hb j (h.dlim hj),if_neg (hne j x hj)];exact h1,by rw[hb j' (h.dlim hj'),if_neg (hne j' x' hj')];exact h2,h3⟩
 · rw [AW.family_push]
   rw[hb j hj]at hw
   split at hw
   . rename_i q
     injection hw with hw
     have:=hk c e r base z hw
     subst this
     exact .inr ⟨q,h.famKey _ hl (Nat.le_refl _)⟩
   . exact h.fam j c e r base z hj hw
 · rw [AW.next_push]
   rw[hb j hj]at hw
   split at hw
   . injection hw with hw
     have:=hk c e r base z hw
     omega
   . have:=h.root j c e r base z hj hw;omega
theorem BRel.lt {σ:Emb} {heap:Array Obj} {x:Loc} {k:Blk} (r:BRel σ heap x k) (hk:∀ c,k ≠ .given c):x.c < heap.size:=by
 have key:∀ o,heap[x.c]? = some o->x.c < heap.size:=fun o q=>by
  rcases Nat.lt_or_ge x.c heap.size with a|a
  . exact a
  . rw[Array.getElem?_eq_none a]at q;cases q
 cases k with
 | cells c e r0 b z=>obtain⟨_,_,cc,ce,q,_⟩:=r;exact key _ q
 | given c=>exact absurd rfl (hk c)
 | map es clock=>obtain⟨_,q,_⟩:=r;exact key _ q
 | loop l=>obtain⟨_,q,_⟩:=r;exact key _ q
 | deferred d =>
  cases d with
  | none=>exact key _ r
  | some l=>cases l with
   | nil=>exact key _ r
   | cons a l=>exact r.elim
def Emb.with (σ:Emb) (b:Nat) (x:Loc):Emb:=fun j=>if j=b then some x else σ j
theorem Emb.le_with {σ:Emb} {b:Nat} (h:σ b=none) (x:Loc):σ.le (σ.with b x):=fun j y hj=>by
 unfold Emb.with
 split
 . rename_i e;subst e;rw[h]at hj;cases hj
 . exact hj
theorem Emb.with_self (σ:Emb) (b:Nat) (x:Loc):σ.with b x b=some x:=by simp[Emb.with]
theorem Emb.with_ne (σ:Emb) (b:Nat) (x:Loc) {j:Nat} (h:j ≠ b):σ.with b x j=σ j:=by simp[Emb.with,h]
theorem BRel.push {N:Nat} {σ:Emb} {heap:Array Obj} {x:Loc} {k:Blk} (r:BRel σ heap x k) (hl:Lies N x k) (hN:N≤heap.size) (o:Obj):BRel σ (heap.push o) x k:=by
 by_cases hg:∃ c,k=.given c
 · obtain ⟨c,rfl⟩:=hg
   intro i v hi hv
   obtain⟨cc,ce,fr,v',q,a,b⟩:=r i v hi hv
   refine⟨cc,ce,fr,v',?_,a,b⟩
   rw[Array.getElem?_push,if_neg]
   . exact q
   . rcases hl.2 with e|e
     . subst e;simp at hi
     . omega
 . have:=r.lt fun c e=>hg ⟨c,e⟩
   refine r.heap ?_
   rw[Array.getElem?_push,if_neg (by omega)]
theorem WRel.alloc {N:Nat} {σ:Emb} {w:AW} {W:World} (h:WRel N σ w W) {b:Nat} {k:Blk} (hn:σ b=none) (hb:b < w.next) (hk:w.blk b=some k) (o:Obj) (x:Loc)
    (hx:x.c=W.heap.size) (hr:BRel (σ.with b x) (W.heap.push o) x k) (hg:∀ c,k ≠ .given c):WRel N (σ.with b x) w (W.alloc o):=by
 have hle:=Emb.le_with hn x
 refine⟨h.wf,h.lim,fun j y hj=>?_,fun j j' y y' hj hj' hc hjj=>?_,h.fam,h.root,fun r j hr hj=>let ⟨y,hy⟩:=h.famIn r j hr hj;⟨y,hle j y hy⟩,h.famKey,by show N≤(W.heap.push o).size;rw[Array.size_push];have:=h.old;omega⟩
 · by_cases q:j=b
   . subst q
     rw[Emb.with_self]at hj
     obtain rfl:=Option.some.inj hj
     exact⟨hb,k,hk,Lies.of (by rw[hx];exact h.old) hg,hr⟩
   . rw[Emb.with_ne _ _ _ q]at hj
     obtain⟨a,k',hk',c,hr'⟩:=h.dom j y hj
     exact⟨a,k',hk',c,(hr'.mono hle).push c h.old o⟩
 · by_cases q:j=b
   . subst q
     rw[Emb.with_self]at hj
     obtain rfl:=Option.some.inj hj
     rw[Emb.with_ne _ _ _ (fun e=>hjj e.symm)]at hj'
     obtain⟨_,k',hk',_,hr'⟩:=h.dom j' y' hj'
     by_cases hg':∃ c,k'=.given c
     . obtain⟨c,rfl⟩:=hg';exact .inr (.inl ⟨c,hk'⟩)
     . have:=hr'.lt fun c e=>hg' ⟨c,e⟩;omega
   · by_cases q':j'=b
     . subst q'
       rw[Emb.with_self]at hj'
       obtain rfl:=Option.some.inj hj'
       rw[Emb.with_ne _ _ _ q]at hj
       obtain⟨_,k',hk',_,hr'⟩:=h.dom j y hj
       by_cases hg':∃ c,k'=.given c
       . obtain⟨c,rfl⟩:=hg';exact .inl ⟨c,hk'⟩
       . have:=hr'.lt fun c e=>hg' ⟨c,e⟩;omega
     . rw[Emb.with_ne _ _ _ q]at hj;rw[Emb.with_ne _ _ _ q']at hj'
       exact h.inj j j' y y' hj hj' hc hjj
theorem WRel.fresh {N:Nat} {σ:Emb} {w:AW} {W:World} (h:WRel N σ w W):σ w.next=none:=by
 cases q:σ w.next with
 | none=>rfl
 | some x=>have:=(h.dom _ _ q).1;omega
theorem WRel.new {N:Nat} {σ:Emb} {w:AW} {W:World} (h:WRel N σ w W) (hn:True) (k:Blk) (hk:∀ c e r base z,k=.cells c e r base z->r=w.next) (o:Obj) (x:Loc)
    (hx:x.c=W.heap.size) (hr:BRel (σ.with w.next x) (W.heap.push o) x k) (hg:∀ c,k ≠ .given c):Ext N σ w W (σ.with w.next x) (w.push k) (W.alloc o):=by
 have hl:Trie.In w.next:=Trie.in_ _
 have hp:=h.push hn k hk
 refine⟨Emb.le_with h.fresh x,hp.alloc h.fresh (by rw[AW.next_push];omega) (by rw[AW.blk_push _ _ _ hl hl,if_pos rfl]) o x hx hr hg,(BelowD.refl N W).alloc h.old o,by rw[AW.next_push];omega,fun j hj hj'=>⟨?_,?_⟩⟩
 . rw[Emb.with_ne _ _ _ (by omega)];exact hj'
 . rw[AW.blk_push _ _ _ hl (h.small hj),if_neg (by omega)]
theorem WRel.newCells {N:Nat} {σ:Emb} {w:AW} {W:World} (h:WRel N σ w W) (hn:True) {c:List Value} {cc:Array Value} (r:LRel σ c cc.toList) (e ce:TypeId) :
    Ext N σ w W (σ.with w.next ⟨W.heap.size,0,cc.size,0⟩) (w.push (.cells c e w.next 0 0)) (W.alloc (.cells cc ce)):=by
 have hle:=Emb.le_with h.fresh (⟨W.heap.size,0,cc.size,0⟩:Loc)
 refine h.new hn _ (fun _ _ _ _ _ q=>by injection q with _ _ q;exact q.symm) _ _ rfl ⟨rfl,by have:=r.length;simp at this;show c.length≤cc.size;omega,cc,ce,by simp,by simp,fun o v ho _=>?_⟩ (fun _ e=>by cases e)
 have hlt:o < c.length:=by
  rcases Nat.lt_or_ge o c.length with q|q
  . exact q
  . rw[List.getElem?_eq_none q]at ho;cases ho
 have hlt':o < cc.size:=by have:=r.length;simp at this;omega
 have g:=r.get o
 simp only[List.getD_eq_getElem?_getD,ho,Option.getD_some]at g
 refine⟨cc[o],by simp[hlt'],?_⟩
 have e2:cc.toList[o]? = some cc[o]:=by simp[hlt']
 rw[e2]at g
 exact (g.mono hle)
theorem WRel.putObj {N:Nat} {σ:Emb} {w:AW} {W:World} (h:WRel N σ w W) {b:Nat} {x:Loc} {k k':Blk} (hb:σ b=some x) (hk:w.blk b=some k) (hc:isCells k=false) (hc':isCells k'=false) (o:Obj)
    (hr:BRel σ (W.heap.setIfInBounds x.c o) x k'):Ext N σ w W σ (w.put b k') { W with heap:=W.heap.setIfInBounds x.c o }:=by
 have hbl:=h.dlim hb
 have hN:N≤x.c:=by
  obtain⟨_,kk,hkk,hl,_⟩:=h.dom b x hb
  rw[hk]at hkk;injection hkk with hkk;subst hkk
  exact hl.own (not_given hc)
 have b1:∀ j,Trie.In j->(w.put b k').blk j=if j=b then some k' else w.blk j:=fun j hj=>AW.blk_put _ _ _ _ hbl hj
 have al:Alike w (w.put b k'):=by
  refine⟨AW.fams_put _ _ _,AW.next_put _ _ _,fun j hj=>?_⟩
  rw[b1 j hj]
  by_cases q:j=b
  . subst q;rw[if_pos rfl];exact .inr (.inr ⟨k,k',hk,rfl,hc,hc'⟩)
  . rw[if_neg q];exact .inl rfl
 refine⟨.refl σ,h.of_alike al (by simpa using h.old) fun j y hj=>?_,?_,by rw[al.next];exact Nat.le_refl _,fun j hj hn=>⟨hn,?_⟩⟩
 · by_cases q:j=b
   . subst q
     obtain rfl:y=x:=Option.some.inj (hj.symm.trans hb)
     exact⟨k',by rw[b1 _ hbl,if_pos rfl],hr⟩
   · obtain ⟨_,kj,hkj,hlj,hrj⟩:=h.dom j y hj
     by_cases hgj:∃ c,kj=.given c
     · obtain ⟨c2,rfl⟩:=hgj
       refine⟨.given c2,by rw[b1 _ (h.dlim hj),if_neg q];exact hkj,fun o' u ho' hu=>?_⟩
       obtain⟨cc2,ce2,fr2,v2,q1,q2,q3⟩:=hrj o' u ho' hu
       refine⟨cc2,ce2,fr2,v2,?_,q2,q3⟩
       show (W.heap.setIfInBounds x.c o)[y.c]? = _
       rw[Array.getElem?_setIfInBounds,if_neg]
       . exact q1
       . rcases hlj.2 with e|e
         . subst e;simp at ho'
         . intro e2;omega
     refine⟨kj,by rw[b1 _ (h.dlim hj),if_neg q];exact hkj,hrj.heap ?_⟩
     have hne:y.c ≠ x.c:=fun e=>by
      rcases h.inj j b y x hj hb e q with ⟨c,q1⟩|⟨c,q1⟩|⟨c,e1,r,base,z,c2,e2,base2,z2,q1,q2,_⟩
      . exact hgj ⟨c,Option.some.inj (hkj.symm.trans q1)⟩
      . rw[hk]at q1;injection q1 with q1;subst q1;cases hc
      . rw[hk]at q2;injection q2 with q2;subst q2;cases hc
     show (W.heap.setIfInBounds x.c o)[y.c]? = _
     rw[Array.getElem?_setIfInBounds,if_neg (fun e=>hne e.symm)]
 . refine⟨⟨rfl,rfl,rfl,by simp,fun j hj=>?_⟩,Nat.le_refl _⟩
   show (W.heap.setIfInBounds x.c o)[j]? = _
   rw[Array.getElem?_setIfInBounds,if_neg (by omega)]
 . have hjb:j ≠ b:=fun q=>by subst q;rw[hb]at hn;cases hn
   rw[b1 _ (h.small hj),if_neg hjb]
theorem add_eq (c p i:Nat):(⟨c,p,none⟩:Addr).add i=⟨c,p+i,none⟩:=by
 unfold Addr.add;split <;> simp_all
theorem oneCell_eq (v:Value):v.oneCell'=oneCell v:=by cases v <;> rfl
theorem WRel.cellsAt {N:Nat} {σ:Emb} {w:AW} {W:World} (h:WRel N σ w W) {b:Nat} {x:Loc} (hb:σ b=some x) :
    ∀ (n o:Nat) (l:List Value),aCells w b o n=some l->∃ l',l.length=n/\LRel σ l l'/\(∀ j v,l'[j]? = some v->W.cell? ⟨x.c,x.s+o+j,none⟩=some v)/\(∀ v ∈ l',oneCell v=true) /\
     (∀ j v,l[j]? = some v->w.cell? ⟨b,o+j,none⟩=some v)
 | 0,o,l,hl=>by
  simp only[aCells,Option.some.injEq]at hl
  subst hl
  exact⟨[],rfl,.nil,by simp,by simp,by simp⟩
 | n + 1,o,l,hl=>by
  simp only[aCells]at hl
  split at hl
  case h_2=>cases hl
  rename_i v hv
  split at hl
  case h_2=>cases hl
  rename_i l1 hl1
  injection hl with hl;subst hl
  obtain⟨v',hv',hr,ho⟩:=h.cell hb hv
  obtain⟨l',e,r,g,one,ga⟩:=WRel.cellsAt h hb n (o+1) l1 hl1
  refine⟨v' :: l',by simp[e],.cons hr r,fun j u hu=>?_,fun u hu=>?_,fun j u hu=>?_⟩
  . cases j with
    | zero=>simp at hu;subst hu;simpa using hv'
    | succ j=>simp at hu;have:=g j u hu;rwa [show x.s+(o+1)+j=x.s+o+(j+1)from by omega]at this
  . rcases List.mem_cons.1 hu with q|q
    . subst q;rw[<- hr.oneCell];exact ho
    . exact one u q
  . cases j with
    | zero=>simp at hu;subst hu;simpa using hv
    | succ j=>simp at hu;have:=ga j u hu;rwa [show o+1+j=o+(j+1)from by omega]at this
theorem WRel.loadRow {N:Nat} {σ:Emb} {w:AW} {W:World} (P:Program) (h:WRel N σ w W) {b:Nat} {x:Loc} (hb:σ b=some x) {n o:Nat} {l:List Value} (hl:aCells w b o n=some l) :
    ∃ l',LRel σ l l'/\(loadCells ⟨x.c,x.s+o,none⟩ n).run P W=.ok l'.toArray W:=by
 obtain⟨l',e,r,g,_,_⟩:=h.cellsAt hb n o l hl
 refine⟨l',r,?_⟩
 have:=run_loadCells_list (P:=P) W ⟨x.c,x.s+o,none⟩ l' (fun j v hv=>by rw[add_eq];exact g j v hv)
 rwa [<- r.length,e]at this
theorem WRel.storeRow {N:Nat} {σ:Emb} (P:Program) {b:Nat} {x:Loc} (hb:σ b=some x) :
    ∀ {l l':List Value} (_:LRel σ l l') (o p i:Nat) (w w':AW) (W:World),p+i=x.s+o->WRel N σ w W->aStores b o l w=some w' ->
     ∃ W',(storeCells ⟨x.c,p,none⟩ l' i).run P W=.ok () W'/\Ext N σ w W σ w' W':=by
 intro l l' r
 induction r with
 | nil =>
  intro o p i w w' W _ h hs
  simp only[aStores,Option.some.injEq]at hs
  subst hs
  exact⟨W,rfl,.refl h⟩
 | cons hv _ ih =>
  intro o p i w w' W hp h hs
  simp only[aStores]at hs
  split at hs
  case h_2=>cases hs
  rename_i w1 hw1
  obtain⟨one,⟨u,hu⟩,hf,e1⟩:=h.store hb hv hw1
  obtain⟨W',hW',e2⟩:=ih (o+1) p (i+1) w1 w' _ (by omega) e1.rel hs
  refine⟨W',?_,e1.trans e2⟩
  rw[<- hp]at hu hf hW'
  simp only[storeCells,Sem.run_bind,add_eq]
  rw[run_store P W _ _ _ (by rw[oneCell_eq];exact one),hu]
  simp only[hf,Bool.false_eq_true,if_false,Result.andThen_ok]
  exact hW'
theorem WRel.first {N:Nat} {σ:Emb} {w:AW} {W:World} (h:WRel N σ w W) {size n k:Nat} {base:Option Addr} {x':Value} (r:VRel σ (.slice base n k) x') {l:List Value}
    (hl:aFirst w size n (.slice base n k)=some l) :
    ∃ l' base' k',x'=.slice base' n k'/\LRel σ l l'/\l'.length=n * size/\(∀ v ∈ l',oneCell v=true) /\
     (((base=none/\base'=none/\l'=[]/\n=0) \/ ∃ b o y,base=some ⟨b,o,none⟩/\base'=some ⟨y.c,y.s+o,none⟩/\σ b=some y/\(∀ j v,l'[j]? = some v->W.cell? ⟨y.c,y.s+o+j,none⟩=some v)/\(∀ j v,l[j]? = some v->w.cell? ⟨b,o+j,none⟩=some v)) \/ ∃ b o y a,base=some ⟨b,o,none⟩/\base'=some a/\σ b=some y/\l'=[]/\n=0):=by
 cases r with
 | odd a=>cases hl
 | tail hb a =>
  simp only[aFirst,Nat.zero_mul,aCells,Option.some.injEq]at hl
  subst hl
  exact⟨[],some a,0,rfl,.nil,by simp,by simp,.inr ⟨_,_,_,a,rfl,rfl,hb,rfl,rfl⟩⟩
 | sliceNil =>
  simp only[aFirst,Option.some.injEq]at hl
  subst hl
  exact⟨[],none,0,rfl,.nil,by simp,by simp,.inl (.inl ⟨rfl,rfl,rfl,rfl⟩)⟩
 | slice hb hk hr =>
  simp only[aFirst]at hl
  obtain⟨l',e,r,g,one,ga⟩:=h.cellsAt hb _ _ l hl
  exact⟨l',_,_,rfl,r,by rw[<- r.length];exact e,one,.inl (.inr ⟨_,_,_,rfl,rfl,hb,g,ga⟩)⟩
theorem run_append_place (P:Program) (W:World) (t ty e:TypeId) (i:TypeInfo) (ht:P.underlying t=some (.slice e)) (hi:P.info? e=some i)
    (g o sLen sCap:Nat) (base':Option Addr) (m c:Nat) (news:List Value) (hl:news.length=m * i.size)
    (hnews:(base'=none/\news=[]) \/ ∃ a,base'=some a/\∀ j u,news[j]? = some u->W.cell? (a.add j)=some u)
    (hroom:sLen+m≤sCap) :
    (Builtin.append_ #[t,t] ty #[.slice (some ⟨g,o,none⟩) sLen sCap,.slice base' m c]).run P W =
      ((storeCells ⟨g,o+sLen * i.size,none⟩ news).run P W).andThen fun _ W'=>.ok (.slice (some ⟨g,o,none⟩) (sLen+m) sCap) W':=by
 have hf:(Builtin.firstCells i.size m (.slice base' m c)).run P W=.ok news.toArray W:=by
  rcases hnews with ⟨rfl,rfl⟩|⟨a,rfl,h⟩
  . simp[Builtin.firstCells]
  . exact run_firstCells_some (P:=P) W i.size m a m c news hl h
 simp[Builtin.append_,run_underlying ht,sizeOf,typeInfo,hi,Builtin.lenOf,hroom,hf,add_eq]
def Weak (c c':List Value):Prop:=c'.length=c.length/\∀ (o:Nat) (v:Value),c'[o]? = some v->oneCell v=true->c[o]? = some v
theorem Weak.refl (c:List Value):Weak c c:=⟨rfl,fun _ _ h _=>h⟩
theorem Weak.trans {a b c:List Value} (h:Weak a b) (k:Weak b c):Weak a c:=⟨k.1.trans h.1,fun o v hv ho=>h.2 o v (k.2 o v hv ho) ho⟩
theorem Weak.struck (c:List Value) (i:Nat):Weak c (c.set i struck):=by
 refine⟨by simp,fun o v hv ho=>?_⟩
 rw[List.getElem?_set]at hv
 split at hv
 . split at hv
   . injection hv with hv;subst hv;cases ho
   . cases hv
 . exact hv
structure Weaker (f:List Nat) (w w':AW):Prop where
 fams:w'.fams=w.fams
 next:w'.next=w.next
 blk:∀ b,Trie.In b->w'.blk b=w.blk b \/ (b ∈ f/\∃ c c' e r base z,w.blk b=some (.cells c e r base z)/\w'.blk b=some (.cells c' e r base z)/\Weak c c')
theorem Weaker.refl (f:List Nat) (w:AW):Weaker f w w:=⟨rfl,rfl,fun _ _=>.inl rfl⟩
theorem Weaker.trans {f:List Nat} {a b c:AW} (h:Weaker f a b) (k:Weaker f b c):Weaker f a c:=by
 refine⟨k.fams.trans h.fams,k.next.trans h.next,fun j hj=>?_⟩
 rcases h.blk j hj with e|⟨hm,c1,c2,e1,r1,b1,z1,h1,h2,h3⟩
 . rw[<- e];exact k.blk j hj
 · rcases k.blk j hj with e'|⟨_,c3,c4,e2,r2,b2,z2,h1',h2',h3'⟩
   . exact .inr ⟨hm,c1,c2,e1,r1,b1,z1,h1,e'.trans h2,h3⟩
   . rw[h2]at h1'
     injection h1' with h1';injection h1' with q1 q2 q3 q4 q5
     subst q1 q2 q3 q4 q5
     exact .inr ⟨hm,c1,c4,e1,r1,b1,z1,h1,h2',h3.trans h3'⟩
theorem Weaker.alike {f:List Nat} {w w':AW} (h:Weaker f w w'):Alike w w' :=
 ⟨h.fams,h.next,fun j hj=>(h.blk j hj).imp id fun ⟨_,c,c',e,r,base,z,h1,h2,h3⟩=>.inl ⟨c,c',e,r,base,z,h1,h2,h3.1⟩⟩
theorem strike_weaker (me cls:Nat) (f:List Nat) (w:AW) (b:Nat) (hb:Trie.In b) (hf:b ∈ f):Weaker f w (strike me cls w b):=by
 have h:=strike_hit me cls w b hb
 refine⟨h.fams,h.next,fun j hj=>?_⟩
 by_cases hjb:j=b
 . subst hjb
   exact (h.blk j hj).imp id fun ⟨_,c,e,r,base,z,h1,_,h3⟩=>⟨hf,c,_,e,r,base,z,h1,h3,Weak.struck _ _⟩
 · refine .inl ?_
   unfold strike
   split
   . rfl
   · split
     · split
       . split
         . rw[AW.blk_put _ _ _ _ hb hj,if_neg hjb]
         . rfl
       . rfl
     . rfl
theorem strikes_weaker (me cls:Nat) (f:List Nat):∀ (l:List Nat) (w:AW),(∀ b ∈ l,Trie.In b/\b ∈ f)->Weaker f w (strikes me cls l w)
 | [],w,_=>.refl _ _
 | b :: l,w,h=>(strike_weaker me cls f w b (h b (by simp)).1 (h b (by simp)).2).trans (strikes_weaker me cls f l _ fun x hx=>h x (by simp[hx]))
theorem Out.weaker {cls:Nat} {f:List Nat} {w w':AW} {b:Nat} (hb:Trie.In b) (h:Out cls w b) (k:Weaker f w w'):Out cls w' b:=by
 intro c e r base z hw hle v hv
 rcases k.blk b hb with q|⟨_,c1,c2,e1,r1,b1,z1,h1,h2,h3⟩
 . exact h c e r base z (q ▸ hw) hle v hv
 . rw[h2]at hw
   injection hw with hw;injection hw with q1 q2 q3 q4 q5
   subst q1 q2 q3 q4 q5
   cases ho:oneCell v with
   | false=>rfl
   | true=>have:=h c1 e1 r1 b1 z1 h1 hle v (h3.2 _ _ hv ho);rw[ho]at this;cases this
theorem struckAll (me:Nat) (f:List Nat) (hf:∀ b ∈ f,Trie.In b):∀ (m lo:Nat) (w:AW),
    Weaker f w (struckOver me f m lo w)/\∀ i,lo≤i->i < lo+m->∀ b ∈ f,b ≠ me->Out i (struckOver me f m lo w) b
 | 0,lo,w=>⟨.refl _ _,fun i hi hi'=>by omega⟩
 | m+1,lo,w=>by
  obtain⟨h1,h2⟩:=struckAll me f hf m (lo+1) (strikes me lo f w)
  have hs:=strikes_weaker me lo f f w (fun b hb=>⟨hf b hb,hb⟩)
  refine⟨hs.trans h1,fun i hi hi' b hb hne=>?_⟩
  by_cases q:i=lo
  . subst q;exact (strikes_out me i f w hf b hb hne).weaker (hf b hb) h1
  . exact h2 i (by omega) (by omega) b hb hne
theorem WRel.weaker {N:Nat} {σ:Emb} {w w':AW} {W:World} {f:List Nat} (h:WRel N σ w W) (k:Weaker f w w') (hf:∀ b ∈ f,∃ x,σ b=some x):Ext N σ w W σ w' W:=by
 refine⟨.refl σ,h.of_alike k.alike h.old fun j y hj=>?_,.refl _ _,by rw[k.next];exact Nat.le_refl _,fun j hj hn=>⟨hn,?_⟩⟩
 · obtain ⟨_,kj,hkj,_,hrj⟩:=h.dom j y hj
   rcases k.blk j (h.dlim hj)with q|⟨_,c1,c2,e1,r1,b1,z1,h1,h2,h3⟩
   . exact⟨kj,q.trans hkj,hrj⟩
   . rw[hkj]at h1;injection h1 with h1;subst h1
     obtain⟨hz,hroom,cc,ce,hq,hsz,g⟩:=hrj
     exact⟨_,h2,hz,by have:=h3.1;omega,cc,ce,hq,hsz,fun o v hv ho=>g o v (h3.2 o v hv ho) ho⟩
 . rcases k.blk j (h.small hj)with q|⟨hm,_⟩
   . exact q
   . obtain⟨x,hx⟩:=hf j hm;rw[hx]at hn;cases hn
theorem grow_cases {w w':AW} {base:Option Addr} {n size more:Nat} {cells:List Value} {elem:TypeId} (hg:w.grow base n size cells more elem=some w') :
    w.full=false/\((base=none/\w'=w.push (.cells cells elem w.next 0 size)) \/
     ∃ b o c e r bs z,base=some ⟨b,o,none⟩/\w.blk b=some (.cells c e r bs z) /\
      ((z=0/\w'=w.push (.cells cells elem w.next 0 size)) \/
       (z ≠ 0/\z=size/\w'=(struckOver w.next (members (w.family r) r) more (bs+o+n * size) w).lay r (members (w.family r) r) (.cells cells elem r (bs+o) size)))):=by
 unfold AW.grow at hg
 split at hg
 case h_1=>cases hg
 rename_i hfull
 refine⟨hfull,?_⟩
 split at hg
 . injection hg with hg;exact .inl ⟨rfl,hg.symm⟩
 · rename_i ab ao
   split at hg
   · rename_i c e r b z hb
     refine .inr ⟨ab,ao,c,e,r,b,z,rfl,hb,?_⟩
     split at hg
     . rename_i hz
       injection hg with hg;exact .inl ⟨Nat.eq_of_beq_eq_true hz,hg.symm⟩
     · rename_i hz
       split at hg
       . rename_i hzs
         injection hg with hg
         exact .inr ⟨Nat.ne_of_beq_eq_false hz,Nat.eq_of_beq_eq_true hzs,hg.symm⟩
       . cases hg
   . cases hg
 . cases hg
theorem WRel.famOf {N:Nat} {σ:Emb} {w:AW} {W:World} (h:WRel N σ w W) {b:Nat} {x:Loc} (hb:σ b=some x) {c:List Value} {e:TypeId} {r bs z:Nat} (hk:w.blk b=some (.cells c e r bs z)) :
    (∀ j ∈ members (w.family r) r,∃ y,σ j=some y)/\(∀ j c' e' bs' z',Trie.In j->w.blk j=some (.cells c' e' r bs' z')->j ∈ members (w.family r) r)/\r < w.next:=by
 have hbl:=h.dlim hb
 have hr:=h.root b c e r bs z hbl hk
 cases hfam:w.family r with
 | nil =>
  have hbr:b=r:=by
   rcases h.fam b c e r bs z hbl hk with q|⟨q,_⟩
   . rw[hfam]at q;cases q
   . exact q
  subst hbr
  refine⟨fun j hj=>?_,fun j c' e' bs' z' hj hw=>?_,hr⟩
  . simp only[members,List.mem_singleton]at hj;subst hj;exact⟨x,hb⟩
  . rcases h.fam j c' e' b bs' z' hj hw with q|⟨q,_⟩
    . rw[hfam]at q;cases q
    . simp[members,q]
 | cons a l =>
  refine⟨fun j hj=>h.famIn r j (h.small hr) (by rw[hfam];exact hj),fun j c' e' bs' z' hj hw=>?_,hr⟩
  rcases h.fam j c' e' r bs' z' hj hw with q|⟨_,q⟩
  . rw[hfam]at q;exact q
  . rw[hfam]at q;cases q
theorem AW.blk_lay (w:AW) (r j:Nat) (f:List Nat) (k:Blk) (hb:Trie.In w.next) (hj:Trie.In j):(w.lay r f k).blk j=if j=w.next then some k else w.blk j:=by
 obtain⟨h,fs,n⟩:=w;exact Trie.get_set h n j k hb hj
theorem AW.next_lay (w:AW) (r:Nat) (f:List Nat) (k:Blk):(w.lay r f k).next=w.next+1:=by obtain⟨h,fs,n⟩:=w;rfl
theorem AW.family_lay (w:AW) (r j:Nat) (f:List Nat) (k:Blk) (hr:Trie.In r) (hj:Trie.In j):(w.lay r f k).family j=if j=r then w.next :: f else w.family j:=by
 obtain⟨h,fs,n⟩:=w
 unfold AW.lay AW.family
 simp only[Trie.get_set fs r j (n :: f) hr hj]
 split
 . rename_i q;split at q
   . injection q with q;subst q;rename_i e;rw[if_pos e]
   . rename_i e;rw[if_neg e,q]
 . rename_i q;split at q
   . cases q
   . rename_i e;rw[if_neg e,q]
theorem WRel.grown {N:Nat} {σ:Emb} {w:AW} {W W':World} (h:WRel N σ w W) {b o:Nat} {x:Loc} (hb:σ b=some x) {c:List Value} {e:TypeId} {r bs z:Nat} (hk:w.blk b=some (.cells c e r bs z))
    (_hfull:w.full=false) {lo more:Nat} {cells:List Value} {elem:TypeId} (y:Loc) (hyz:y.z=z)
    (hN:N≤y.c) (hroom:cells.length≤y.room)
    (hnew:∃ cc ce,W'.heap[y.c]? = some (.cells cc ce (0,0))/\cc.size=y.s+y.room/\∀ i v,cells[i]? = some v->oneCell v=true->∃ v',cc[y.s+i]? = some v'/\VRel σ v v')
    (hbelow:BelowD N W W')
    (hheap:∀ j u,σ j=some u->(∀ c,w.blk j ≠ some (.given c))->u.c ≠ y.c->W'.heap[u.c]? = W.heap[u.c]?)
    (hcase:(∀ j u,σ j=some u->(∀ c,w.blk j ≠ some (.given c))->u.c ≠ y.c) \/
      (y.c=x.c/\y.s=x.s+o/\x.s+x.room=y.s+y.room/\∃ cc cc' ce ce',W.heap[x.c]? = some (.cells cc ce (0,0))/\W'.heap[x.c]? = some (.cells cc' ce' (0,0))/\cc'.size=cc.size /\
        ∀ q,(x.s+lo≤q+bs->q+bs < x.s+lo+more->False)->cc'[q]? = cc[q]?)) :
    Ext N σ w W (σ.with w.next y) ((struckOver w.next (members (w.family r) r) more lo w).lay r (members (w.family r) r) (.cells cells elem r (bs+o) z)) W':=by
 obtain⟨f1,f2,f3⟩:=h.famOf hb hk
 have hl:Trie.In w.next:=Trie.in_ _
 have hrl:Trie.In r:=Trie.in_ _
 have hfl:∀ j ∈ members (w.family r) r,Trie.In j:=fun j hj=>let ⟨u,hu⟩:=f1 j hj;h.dlim hu
 have hfn:∀ j ∈ members (w.family r) r,j ≠ w.next:=fun j hj q=>by obtain⟨u,hu⟩:=f1 j hj;have:=(h.dom j u hu).1;omega
 obtain⟨hw,hout⟩:=struckAll w.next (members (w.family r) r) hfl more lo w
 generalize hF:members (w.family r) r=f at *
 generalize struckOver w.next f more lo w=w1 at *
 have h1:=h.weaker hw f1
 have hn1:w1.next=w.next:=hw.next
 have hl1:Trie.In w1.next:=by rw[hn1];exact hl
 have hle:=Emb.le_with h.fresh y
 have blk:∀ j,Trie.In j->(w1.lay r f (.cells cells elem r (bs+o) z)).blk j=if j=w.next then some (.cells cells elem r (bs+o) z) else w1.blk j:=fun j hj=>by rw[AW.blk_lay _ _ _ _ _ hl1 hj,hn1]
 have hne:∀ j u,σ j=some u->j ≠ w.next:=fun j u hj q=>by have:=(h.dom j u hj).1;omega
 have fams1:∀ j,w1.family j=w.family j:=fun j=>AW.family_eq _ _ hw.fams j
 have fam:∀ j,Trie.In j->(w1.lay r f (.cells cells elem r (bs+o) z)).family j=if j=r then w.next :: f else w.family j:=fun j hj=>by rw[AW.family_lay _ _ _ _ _ hrl hj,hn1,fams1]
 have base1:∃ c1,w1.blk b=some (.cells c1 e r bs z):=by
  rcases hw.blk b (h.dlim hb)with q|⟨_,c1,c2,e1,r1,b1,z1,q1,q2,_⟩
  . exact⟨c,q.trans hk⟩
  . rw[hk]at q1;injection q1 with q1;injection q1 with p1 p2 p3 p4 p5
    subst p1 p2 p3 p4 p5;exact⟨c2,q2⟩
 have giv:∀ j c,w1.blk j=some (.given c)->w.blk j=some (.given c):=by
  intro j c hj
  rcases hw.blk j (Trie.in_ _)with q|⟨_,c1,c2,e1,r1,b1,z1,q1,q2,_⟩
  . exact q ▸ hj
  . rw[q2]at hj;cases hj
 have vig:∀ j c,w.blk j=some (.given c)->w1.blk j=some (.given c):=by
  intro j c hj
  rcases hw.blk j (Trie.in_ _)with q|⟨_,c1,c2,e1,r1,b1,z1,q1,q2,_⟩
  . exact q.trans hj
  . rw[hj]at q1;cases q1
 have alias:∀ j u,σ j=some u->(∀ c,w1.blk j ≠ some (.given c))->u.c=y.c->∃ c1 e1 b1 z1,w1.blk j=some (.cells c1 e1 r b1 z1)/\y.s+b1=u.s+(bs+o):=by
  intro j u hj hng hc
  rcases hcase with q|⟨q1,q2,_⟩
  . exact absurd hc (q j u hj fun c e=>hng c (vig j c e))
  · obtain ⟨c1,hc1⟩:=base1
    by_cases hjb:j=b
    . subst hjb
      obtain rfl:u=x:=Option.some.inj (hj.symm.trans hb)
      exact⟨c1,e,bs,z,hc1,by omega⟩
    . rcases h1.rel.inj j b u x hj hb (by omega) hjb with ⟨c2,p1⟩|⟨c2,p1⟩|⟨c2,e2,r2,b2,z2,c3,e3,b3,z3,p1,p2,p3⟩
      . exact absurd p1 (hng c2)
      . rw[hc1]at p1;cases p1
      rw[hc1]at p2;injection p2 with p2;injection p2 with s1 s2 s3 s4 s5
      subst s1 s2 s3 s4 s5
      exact⟨c2,e2,b2,z2,p1,by omega⟩
 refine⟨hle,⟨fun j k hj hk'=>?_,trivial,fun j u hj=>?_,fun j j' u u' hj hj' hc hjj=>?_,fun j c' e' r' bs' z' hj hw'=>?_,fun j c' e' r' bs' z' hj hw'=>?_,fun r' j hr' hj=>?_,fun r' hr' hr''=>?_,Nat.le_trans h.old hbelow.size⟩,hbelow,by rw[AW.next_lay];omega,fun j hj hj'=>⟨?_,?_⟩⟩
 . rw[AW.next_lay,hn1];rw[blk j hj]at hk'
   split at hk'
   . omega
   . have:=h1.rel.wf j k hj hk';omega
 · by_cases q:j=w.next
   . subst q
     rw[Emb.with_self]at hj
     obtain rfl:=Option.some.inj hj
     obtain⟨cc,ce,g1,g2,g3⟩:=hnew
     exact⟨by rw[AW.next_lay];omega,.cells cells elem r (bs+o) z,by rw[blk _ hl,if_pos rfl],hN,hyz,hroom,cc,ce,g1,g2,fun i v hv ho=>let ⟨v',a1,a2⟩:=g3 i v hv ho;⟨v',a1,a2.mono hle⟩⟩
   · rw [Emb.with_ne _ _ _ q]at hj
     obtain⟨a1,k,hk',a2,hr⟩:=h1.rel.dom j u hj
     have hjl:=h.dlim hj
     by_cases hgk:∃ c,k=.given c
     . obtain⟨c0,rfl⟩:=hgk
       refine⟨by rw[AW.next_lay];omega,.given c0,by rw[blk j hjl,if_neg (hne j u hj)];exact hk',a2,fun i v hi hv=>?_⟩
       obtain⟨cc,ce,fr,v',q1,q2,q3⟩:=(hr.mono hle) i v hi hv
       refine⟨cc,ce,fr,v',?_,q2,q3⟩
       rcases a2.2 with e'|e'
       . subst e';simp at hi
       . rw[hbelow.block _ e'];exact q1
     have hng:∀ c,w1.blk j ≠ some (.given c):=fun c e'=>hgk ⟨c,Option.some.inj (hk'.symm.trans e')⟩
     by_cases hc:u.c=y.c
     · rcases hcase with q'|⟨q1,q2,q3,cc,cc',ce,ce',g1,g2,g3,g4⟩
       . exact absurd hc (q' j u hj fun c e'=>hng c (vig j c e'))
       · obtain ⟨c1,e1,b1,z1,p1,p2⟩:=alias j u hj hng hc
         rw[hk']at p1;injection p1 with p1;subst p1
         obtain⟨t1,t2,dd,de,t3,t4,t5⟩:=hr
         have hucx:u.c=x.c:=by omega
         rw[hucx,g1]at t3
         injection t3 with t3;injection t3 with s1 s2 s3
         subst s1 s2
         refine⟨by rw[AW.next_lay];omega,.cells c1 e1 r b1 z1,by rw[blk j hjl,if_neg (hne j u hj)];exact hk',a2,t1,t2,cc',ce',by rw[hucx];exact g2,by rw[g3];exact t4,fun i v hv ho=>?_⟩
         obtain⟨v',a3,a4⟩:=t5 i v hv ho
         refine⟨v',?_,a4.mono hle⟩
         rw[g4]
         . exact a3
         · intro i1 i2
           have hjf:j ∈ f:=by
            rcases hw.blk j hjl with s|⟨s,_⟩
            . rw[hk']at s;exact f2 j _ _ _ _ hjl s.symm
            . exact s
           have:=hout (b1+i) (by omega) (by omega) j hjf (hne j u hj) c1 e1 r b1 z1 hk' (by omega) v (by rw[show b1+i - b1=i from by omega];exact hv)
           rw[this]at ho;cases ho
     . exact⟨by rw[AW.next_lay];omega,k,by rw[blk j hjl,if_neg (hne j u hj)];exact hk',a2,(hr.mono hle).heap (hheap j u hj (fun c e'=>hng c (vig j c e')) hc)⟩
 · by_cases q:j=w.next
   · subst q
     rw[Emb.with_self]at hj
     obtain rfl:=Option.some.inj hj
     rw[Emb.with_ne _ _ _ (fun s=>hjj s.symm)]at hj'
     by_cases hgk:∃ c,w1.blk j'=some (.given c)
     . obtain⟨c,hgk⟩:=hgk
       exact .inr (.inl ⟨c,by rw[blk j' (h.dlim hj'),if_neg (hne j' u' hj')];exact hgk⟩)
     obtain⟨c1,e1,b1,z1,p1,p2⟩:=alias j' u' hj' (fun c e'=>hgk ⟨c,e'⟩) hc.symm
     refine .inr (.inr ?_)
     exact⟨_,_,_,_,_,c1,e1,b1,z1,by rw[blk _ hl,if_pos rfl],by rw[blk j' (h.dlim hj'),if_neg (hne j' u' hj')];exact p1,p2⟩
   · rw [Emb.with_ne _ _ _ q]at hj
     by_cases q':j'=w.next
     · subst q'
       rw[Emb.with_self]at hj'
       obtain rfl:=Option.some.inj hj'
       by_cases hgk:∃ c,w1.blk j=some (.given c)
       . obtain⟨c,hgk⟩:=hgk
         exact .inl ⟨c,by rw[blk j (h.dlim hj),if_neg (hne j u hj)];exact hgk⟩
       obtain⟨c1,e1,b1,z1,p1,p2⟩:=alias j u hj (fun c e'=>hgk ⟨c,e'⟩) hc
       refine .inr (.inr ?_)
       exact⟨c1,e1,r,b1,z1,_,_,_,_,by rw[blk j (h.dlim hj),if_neg (hne j u hj)];exact p1,by rw[blk _ hl,if_pos rfl],by omega⟩
     . rw[Emb.with_ne _ _ _ q']at hj'
       rcases h1.rel.inj j j' u u' hj hj' hc hjj with ⟨c,q1⟩|⟨c,q1⟩|⟨c2,e2,r2,b2,z2,c3,e3,b3,z3,p1,p2,p3⟩
       . exact .inl ⟨c,by rw[blk j (h.dlim hj),if_neg (hne j u hj)];exact q1⟩
       . exact .inr (.inl ⟨c,by rw[blk j' (h.dlim hj'),if_neg (hne j' u' hj')];exact q1⟩)
       refine .inr (.inr ?_)
       exact⟨c2,e2,r2,b2,z2,c3,e3,b3,z3,by rw[blk j (h.dlim hj),if_neg (hne j u hj)];exact p1,by rw[blk j' (h.dlim hj'),if_neg (hne j' u' hj')];exact p2,p3⟩
 · rw [blk j hj]at hw'
   split at hw'
   . rename_i q
     injection hw' with hw';injection hw' with s1 s2 s3 s4 s5
     subst s3;subst q
     refine .inl ?_
     rw[fam _ hrl,if_pos rfl];simp
   · have hr'l:Trie.In r':=Trie.in_ _
     rw[fam _ hr'l]
     by_cases q:r'=r
     . subst q
       rw[if_pos rfl]
       refine .inl (List.mem_cons_of_mem _ ?_)
       rcases hw.blk j hj with s|⟨s,_⟩
       . rw[hw']at s;exact f2 j _ _ _ _ hj s.symm
       . exact s
     . rw[if_neg q]
       have:=h1.rel.fam j c' e' r' bs' z' hj hw'
       rwa [fams1]at this
 . rw[AW.next_lay,hn1]
   rw[blk j hj]at hw'
   split at hw'
   . injection hw' with hw';injection hw' with s1 s2 s3 s4 s5;omega
   . have:=h1.rel.root j c' e' r' bs' z' hj hw';omega
 · rw [fam r' hr']at hj
   split at hj
   . rcases List.mem_cons.1 hj with s|s
     . subst s;exact⟨y,Emb.with_self _ _ _⟩
     . obtain⟨u,hu⟩:=f1 j s;exact⟨u,hle j u hu⟩
   . obtain⟨u,hu⟩:=h.famIn r' j hr' hj;exact⟨u,hle j u hu⟩
 . rw[fam r' hr']
   rw[AW.next_lay]at hr''
   rw[if_neg (by omega)]
   exact h.famKey r' hr' (by omega)
 . rw[Emb.with_ne _ _ _ (by omega)];exact hj'
 . rw[blk j (h.small hj),if_neg (by omega)]
   exact (h1.un j hj hj').2
structure Fit (P:Program):Prop where
 types:Trie.In P.types.size
 funcs:Trie.In P.funcs.size
 zeros:∀ (t:Nat) (info:TypeInfo) (z:Value),t < P.types.size->P.info? t=some info->info.zero=some z->plain 8 z=true
 codes:∀ (f:Nat) (fn:Func) (c:Code),P.funcs[f]? = some fn->fn.body=some c->Trie.In fn.ntmps/\fitsCode fn.ntmps c=true/\fn.name ≠ "runtime.NumGoroutine" /\
  fn.results.toList.all (fun|.tmp i=>Nat.blt i fn.ntmps|.cell a _=>Nat.blt a fn.ntmps)=true
theorem ty_lt {P:Program} (hP:Trie.In P.types.size) {t:TypeId} {i:TI} (h:(prg P).ty t=some i):t < P.types.size:=by
 unfold Prg.ty prg at h
 split at h
 . rename_i hlt
   have hlt:Trie.In t:=Trie.in_ _
   simp only at h
   rw[tysTo_get P _ _ _ hP hlt]at h
   by_cases q:t < P.types.size
   . exact q
   . rw[if_neg q,Trie.get_leaf]at h;cases h
 . cases h
theorem ty_spec {P:Program} (hP:Trie.In P.types.size) {t:TypeId} {i:TI} (h:(prg P).ty t=some i) :
    ∃ info z,P.info? t=some info/\P.underlying t=some i.und/\info.size=i.size/\info.bytes=i.bytes/\info.zero=some z/\i.zero=z /\
     i.agg=(match i.und with|.struct _|.array _ _=>true|_=>false):=by
 have key:tyOf P t=some i:=by
  unfold Prg.ty prg at h
  split at h
  . rename_i hlt
    have hlt:Trie.In t:=Trie.in_ _
    simp only at h
    rw[tysTo_get P _ _ _ hP hlt]at h
    by_cases q:t < P.types.size
    . rw[if_pos q]at h;exact h
    . rw[if_neg q,Trie.get_leaf]at h;cases h
  . cases h
 unfold tyOf at key
 split at key
 · rename_i info d h1 h2
   split at key
   . rename_i z hz
     injection key with key;subst key
     exact⟨info,z,h1,h2,rfl,rfl,hz,rfl,rfl⟩
   . cases key
 . cases key
theorem WRel.congr {N:Nat} {σ:Emb} {w:AW} {W W':World} (h:WRel N σ w W) (e:W'.heap=W.heap):WRel N σ w W' :=
 ⟨h.wf,h.lim,fun b x hb=>let ⟨a,k,hk,c,hr⟩:=h.dom b x hb;⟨a,k,hk,c,hr.heap (by rw[e])⟩,h.inj,h.fam,h.root,h.famIn,h.famKey,by rw[e];exact h.old⟩
theorem fn_spec {P:Program} (hP:Trie.In P.funcs.size) {f:FuncId} {fn:Func} (h:(prg P).fn f=some fn):P.funcs[f]? = some fn:=by
 unfold Prg.fn prg at h
 split at h
 . rename_i hlt
   have hlt:Trie.In f:=Trie.in_ _
   simp only at h
   rw[Trie.fillFrom_get _ _ _ _ (by simpa using hP) hlt]at h
   split at h
   . simpa using h
   . rw[Trie.get_leaf]at h;cases h
 . cases h
theorem belowD_setRow {B g:Nat} {w0 w:World} (hb:BelowD B w0 w) (hBg:B≤g) (cs:Array Value):BelowD B w0 (w.setRow g cs):=⟨below_setRow hb.toBelow hBg cs,hb.drawn⟩
theorem Ext.congr {N:Nat} {σ σ':Emb} {w w':AW} {W W':World} (h:Ext N σ w W.drew σ' w' W'):Ext N σ w W σ' w' W' :=
 ⟨h.le,h.rel,(BelowD.drew (BelowD.refl N W)).trans h.below,h.next,h.un⟩
theorem LRel.getSome {σ:Emb} {l l':List Value} (r:LRel σ l l') {i:Nat} {v:Value} (h:l[i]? = some v):∃ v',l'[i]? = some v'/\VRel σ v v':=by
 have hi:i < l.length:=by
  rcases Nat.lt_or_ge i l.length with q|q
  . exact q
  . rw[List.getElem?_eq_none q]at h;cases h
 have hi':i < l'.length:=by rw[<- r.length];exact hi
 have:=r.get i
 simp only[List.getD_eq_getElem?_getD,h,Option.getD_some]at this
 refine⟨l'[i],by simp[hi'],?_⟩
 simpa [hi'] using this
theorem append_sim {P:Program} (hP:Fit P) {N:Nat} {σ:Emb} {w w':AW} {W:World} (h:WRel N σ w W) {sT xT:TypeId} {s x s' x' v:Value} (ty:TypeId)
    (hs:VRel σ s s') (hx:VRel σ x x') (ha:append (prg P) w sT xT s x=some (v,w')) :
    ∃ σ' v' W',(Builtin.append_ #[sT,xT] ty #[s',x']).run P W=.ok v' W'/\Ext N σ w W σ' w' W'/\VRel σ' v v':=by
 unfold append at ha
 split at ha
 case h_2=>cases ha
 rename_i base n k xb m xk
 split at ha
 case h_2=>cases ha
 rename_i _ _ _ elem _ _ _ _ _ _ _ _ hsT hxT
 split at ha
 case h_2=>cases ha
 rename_i _ _ _ size bytes zero hel
 split at ha
 case h_2=>cases ha
 rename_i hcond
 simp only[Bool.and_eq_true]at hcond
 obtain⟨⟨⟨⟨c1,c2⟩,c3⟩,c4⟩,c5⟩:=hcond
 have c1:=Nat.eq_of_beq_eq_true c1
 have c2:n+m≤140737488355328:=Nat.le_of_ble_eq_true c2
 have c3:(n+m) * bytes≤140737488355328:=Nat.le_of_ble_eq_true c3
 have c4:1≤size:=Nat.le_of_ble_eq_true c4
 have c5:=Nat.eq_of_beq_eq_true c5
 subst c5
 obtain⟨info,z,i1,i2,i3,i4,i5,i6,_⟩:=ty_spec hP.types hel
 obtain⟨_,_,_,t2,_⟩:=ty_spec hP.types hsT
 simp only at i2 i3 i4 i6 t2
 subst i6
 split at ha
 case h_1=>cases ha
 rename_i new hnew
 obtain ⟨new',xb',xk',rfl,rnew,lnew,onew,readx⟩:∃ new' xb' xk',x'=.slice xb' m xk'/\LRel σ new new'/\new'.length=m * size/\(∀ v ∈ new',oneCell v=true)/\((xb'=none/\new'=[]) \/ ∃ a,xb'=some a/\∀ j u,new'[j]? = some u->W.cell? (a.add j)=some u):=by
  unfold aNew at hnew
  split at hnew
  . rename_i l hl
    injection hnew with hnew
    subst hnew
    obtain⟨new',xb',xk',q1,q2,q3,q4,wherex⟩:=h.first hx hl
    refine⟨new',xb',xk',q1,q2,q3,q4,?_⟩
    rcases wherex with (⟨_,q,q',_⟩|⟨b,o,y,_,q,_,g,_⟩)|⟨b,o,y,a,_,q,_,q',_⟩
    . exact .inl ⟨q,q'⟩
    . exact .inr ⟨_,q,fun j u hu=>by rw[add_eq];exact g j u hu⟩
    . exact .inr ⟨_,q,fun j u hu=>by rw[q']at hu;simp at hu⟩
  · split at hnew
    . injection hnew with hnew
      subst hnew
      have hsl:∃ xb' xk',x'=.slice xb' 0 xk':=by cases hx <;> exact⟨_,_,rfl⟩
      obtain⟨xb',xk',rfl⟩:=hsl
      refine⟨[],xb',xk',rfl,.nil,by simp,by simp,?_⟩
      cases xb' with
      | none=>exact .inl ⟨rfl,rfl⟩
      | some a=>exact .inr ⟨a,rfl,fun j u hu=>by simp at hu⟩
    . cases hnew
 have hbytes:(n+m) * info.bytes≤140737488355328:=by
  rw[i4];exact c3
 split at ha
 · -- in place
   rename_i hroom
   have hroom:=Nat.le_of_ble_eq_true hroom
   split at ha
   · rename_i b o
     split at ha
     case h_2=>cases ha
     rename_i w1 hw1
     injection ha with ha;injection ha with ha1 ha2;subst ha1 ha2
     cases hs with
     | slice hb hk hr =>
      rename_i k' y
      obtain⟨W',hW',e⟩:=WRel.storeRow P hb rnew (o+n * size) (y.s+o+n * size) 0 w w1 W (by omega) h hw1
      refine⟨σ,_,W',?_,e,.slice hb hk hr⟩
      rw[run_append_place P W sT ty elem info t2 i1 y.c (y.s+o) n k' xb' m xk' new' (by rw[lnew,i3]) readx (by omega),i3,hW']
      rfl
     | tail hb a =>
      have hm:m=0:=by omega
      subst hm
      have hn0:new'=[]:=by simpa using lnew
      subst hn0
      cases rnew
      simp only[aStores,Option.some.injEq]at hw1
      subst hw1
      refine⟨σ,.slice (some a) 0 0,W,?_,.refl h,by simpa using VRel.tail hb a⟩
      have hf:(Builtin.firstCells info.size 0 (.slice xb' 0 xk')).run P W=.ok #[] W:=by
       cases xb' <;> simp[Builtin.firstCells,loadCells,loadCellsFrom]
      simp[Builtin.append_,run_underlying t2,sizeOf,typeInfo,i1,Builtin.lenOf,hf,storeCells]
   · injection ha with ha;injection ha with ha1 ha2;subst ha1 ha2
     cases hs with
     | sliceNil =>
      have hm:m=0:=by omega
      subst hm
      have hn0:new'=[]:=by simpa using lnew
      subst hn0
      refine⟨σ,.slice none 0 0,W,?_,.refl h,by simpa using VRel.sliceNil⟩
      have hf:(Builtin.firstCells info.size 0 (.slice xb' 0 xk')).run P W=.ok #[] W:=by
       cases xb' <;> simp[Builtin.firstCells,loadCells,loadCellsFrom]
      simp[Builtin.append_,run_underlying t2,sizeOf,typeInfo,i1,Builtin.lenOf,hf]
   . cases ha
 · -- longer than what is known
   rename_i hroom
   have hroom:k < n+m:=by
    rcases Nat.lt_or_ge k (n+m)with q|q
    . exact q
    . rw[Nat.ble_eq_true_of_le q]at hroom;cases hroom
   split at ha
   case h_1=>cases ha
   rename_i old hold
   split at ha
   case h_2=>cases ha
   rename_i w1 hgrow
   injection ha with ha;injection ha with ha1 ha2;subst ha1 ha2
   obtain⟨old',base',k',rfl,rold,lold,oold,wheres⟩:=h.first hs hold
   obtain⟨hfull,cases3⟩:=grow_cases hgrow
   have hk':k≤k'/\(k'=k \/ ∃ b o y,base=some ⟨b,o,none⟩/\base'=some ⟨y.c,y.s+o,none⟩/\σ b=some y/\0 < y.z/\o+k' * y.z≤y.room):=by
    cases hs with
    | odd a=>cases hold
    | sliceNil=>exact⟨Nat.le_refl _,.inl rfl⟩
    | tail hb a=>exact⟨Nat.le_refl _,.inl rfl⟩
    | slice hb hk hr=>exact⟨hk,hr.imp id fun ⟨a,b⟩=>⟨_,_,_,rfl,rfl,hb,a,b⟩⟩
   have lall:(old++new).length=(n+m) * size:=by rw[List.length_append,rold.length,rnew.length,lold,lnew,Nat.add_mul]
   by_cases hplace:n+m≤k'
   · -- the model has room for it
     obtain⟨_,hk'⟩:=hk'
     rcases hk' with q|⟨b,o,y,rfl,rfl,hb,hz,hfit⟩
     . omega
     · rcases cases3 with ⟨q,_⟩|⟨b2,o2,c,e,r,bs,z2,q,hk,q2⟩
       . cases q
       · injection q with q;injection q with q3 q4;subst q3 q4
         obtain⟨_,kk,hkk,hN,hbr⟩:=h.dom b y hb
         rw[hk]at hkk;injection hkk with hkk;subst hkk
         obtain⟨hyz,hcr,cc,ce,hq,hsz,g⟩:=hbr
         rcases q2 with ⟨q5,_⟩|⟨_,q6,q7⟩
         . omega
         · subst q6
           have hmul:(n+m) * z2≤k' * z2:=Nat.mul_le_mul_right _ hplace
           have hmn:(n+m) * z2=n * z2+m * z2:=Nat.add_mul _ _ _
           rw[hyz]at hfit
           have hst:=run_storeCells_at P y.c (y.s+o+n * z2) ce new' 0 cc W hq (by rw[lnew];omega) (fun v hv=>by rw[oneCell_eq];exact onew v hv)
           simp only[Nat.add_zero]at hst
           generalize hcc':(cc.toList.take (y.s+o+n * z2)++new'++cc.toList.drop (y.s+o+n * z2+new'.length)).toArray=cc' at hst
           have hat:∀ p,cc'[p]? = if p < y.s+o+n * z2 then cc[p]? else if p < y.s+o+n * z2+m * z2 then new'[p - (y.s+o+n * z2)]? else cc[p]?:=by
            intro p
            rw[<- hcc',List.getElem?_toArray,List.getElem?_append,List.getElem?_append]
            simp only[List.length_append,List.length_take,Array.length_toList,List.getElem?_take,List.getElem?_drop,lnew]
            have e1:min (y.s+o+n * z2) cc.size=y.s+o+n * z2:=by omega
            rw[e1]
            by_cases a1:p < y.s+o+n * z2
            . rw[if_pos (by omega),if_pos a1,if_pos a1,if_pos a1];simp
            · rw [if_neg a1]
              by_cases a2:p < y.s+o+n * z2+m * z2
              . rw[if_pos a2,if_pos a2];simp[a1]
              . rw[if_neg a2,if_neg a2]
                rw[show y.s+o+n * z2+m * z2+(p - (y.s+o+n * z2+m * z2))=p from by omega];simp
           have hccs:cc'.size=cc.size:=by
            rw[<- hcc']
            simp only[List.size_toArray,List.length_append,List.length_take,List.length_drop,Array.length_toList,lnew]
            omega
           have hnext:w1=(struckOver w.next (members (w.family r) r) (m * z2) (bs+o+n * z2) w).lay r (members (w.family r) r) (.cells (old++new) elem r (bs+o) z2):=q7
           subst hnext
           refine⟨σ.with w.next ⟨y.c,y.s+o,y.room - o,z2⟩,.slice (some ⟨y.c,y.s+o,none⟩) (n+m) k',W.setRow y.c cc',?_,?_,?_⟩
           . rw[run_append_place P W sT ty elem info t2 i1 y.c (y.s+o) n k' xb' m xk' new' (by rw[lnew,i3]) readx hplace,i3,hst]
             rfl
           · refine h.grown hb hk hfull ⟨y.c,y.s+o,y.room - o,z2⟩ rfl hN (by rw[lall];show _≤y.room - o;omega) ⟨cc',ce,setRow_heap W _ _ _ _ _ hq,by rw[hccs,hsz];show _=y.s+o+(y.room - o);omega,fun i v hv ho=>?_⟩
               (belowD_setRow (BelowD.refl N W) hN cc') (fun j u hj _ hne=>setRow_other W _ _ _ hne) (.inr ⟨rfl,rfl,by show y.s+y.room=y.s+o+(y.room - o);omega,cc,cc',ce,ce,hq,setRow_heap W _ _ _ _ _ hq,hccs,fun p hp=>?_⟩)
             · rw [List.getElem?_append]at hv
               split at hv
               · rename_i hi
                 obtain⟨v',hv',hrel⟩:=rold.getSome hv
                 have hi2:i < n * z2:=by rw[rold.length,lold]at hi;exact hi
                 rcases wheres with (⟨q,_⟩|⟨b3,o3,y3,q,q',hb3,gg,_⟩)|⟨_,_,_,_,_,_,_,_,q⟩
                 rotate_left 2
                 . subst q;omega
                 . cases q
                 . injection q with q;injection q with q8 q9;subst q8 q9
                   obtain rfl:y3=y:=Option.some.inj (hb3.symm.trans hb)
                   have:=gg i v' hv'
                   simp only[World.cell?,hq]at this
                   refine⟨v',?_,hrel⟩
                   rw[hat,if_pos (show y3.s+o+i < _ by omega)]
                   simpa using this
               · rename_i hi
                 have hi2:n * z2≤i:=by rw[rold.length,lold]at hi;omega
                 obtain⟨v',hv',hrel⟩:=rnew.getSome hv
                 refine⟨v',?_,hrel⟩
                 have hlt2:i - old.length < m * z2:=by
                  rcases Nat.lt_or_ge (i - old.length) (m * z2)with q|q
                  . exact q
                  . rw[List.getElem?_eq_none (by rw[lnew];exact q)]at hv';cases hv'
                 have hol:old.length=n * z2:=by rw[rold.length,lold]
                 rw[hol]at hv' hlt2
                 rw[hat,if_neg (show ¬ y.s+o+i < _ by omega),if_pos (show y.s+o+i < _ by omega),show y.s+o+i - (y.s+o+n * z2)=i - n * z2 from by omega]
                 exact hv'
             . rw[hat]
               by_cases a1:p < y.s+o+n * z2
               . rw[if_pos a1]
               . rw[if_neg a1,if_neg (fun a2=>hp (by omega) (by omega))]
           . have:=VRel.slice (σ:=σ.with w.next ⟨y.c,y.s+o,y.room - o,z2⟩) (b:=w.next) (o:=0) (n:=n+m) (k:=n+m) (k':=k') (Emb.with_self _ _ _) hplace (.inr ⟨by show 0 < z2;omega,by show 0+k' * z2≤y.room - o;omega⟩)
             simpa using this
   · -- a new row
     have hk2:k' < n+m:=by omega
     have hcap:=nextslicecap_le (need:=n+m) (old:=k') hk2
     have hfit:Builtin.nextslicecap (n+m) k' * info.bytes≤281474976710656:=by
      have:=Nat.mul_le_mul_right info.bytes hcap
      rw[show 2 * (n+m) * info.bytes=2 * ((n+m) * info.bytes)from Nat.mul_assoc _ _ _]at this
      omega
     have hge:=grownCap_ge W (n+m) k' elem
     generalize hC:grownCap W (n+m) k' elem=C at hge
     generalize hcc:(old'++new').toArray++Builtin.zeroCells zero.cells (C - (n+m))=cc
     have hccs:cc.size=C * size:=by
      rw[<- hcc]
      simp only[Array.size_append,List.size_toArray,List.length_append,lold,lnew,size_zeroCells,c1]
      rw[<- Nat.add_mul,<- Nat.add_mul];congr 1;omega
     have hrun:(Builtin.append_ #[sT,sT] ty #[.slice base' n k',.slice xb' m xk']).run P W=.ok (.slice (some ⟨W.heap.size,0,none⟩) (n+m) C) (W.drew.alloc (.cells cc elem)):=by
      have hn:¬ (n+m≤k'):=hplace
      have h63:¬ (9223372036854775807 < ((n:Int)+(m:Int))):=by omega
      have h48:¬ (281474976710656 < Builtin.nextslicecap (n+m) k' * info.bytes):=by omega
      have hfx:(Builtin.firstCells info.size m (.slice xb' m xk')).run P W.drew=.ok new'.toArray W.drew:=by
       rcases readx with ⟨rfl,rfl⟩|⟨a,rfl,g⟩
       . simp[Builtin.firstCells]
       . exact run_firstCells_some (P:=P) W.drew info.size m a m xk' new' (by rw[lnew,i3]) g
      have hfs:(Builtin.firstCells info.size n (.slice base' n k')).run P W.drew=.ok old'.toArray W.drew:=by
       rcases wheres with (⟨_,rfl,rfl,_⟩|⟨b,o,y,_,rfl,_,g,_⟩)|⟨b,o,y,a,_,rfl,_,rfl,rfl⟩
       rotate_left 2
       . simp[Builtin.firstCells,loadCells,loadCellsFrom]
       . simp[Builtin.firstCells]
       . exact run_firstCells_some (P:=P) W.drew info.size n _ n k' old' (by rw[lold,i3]) (fun j u hu=>by rw[add_eq];exact g j u hu)
      simp[Builtin.append_,run_underlying t2,sizeOf,typeInfo,zeroValue,i1,i5,Builtin.lenOf,hn,h63,h48,Question.forced,hfx,hfs,newRow]
      have hC':(Question.appendCap (n+m) k' elem).cut (W.tape W.drawn (.appendCap (n+m) k' elem))=C:=hC
      rw[hC']
      refine⟨rfl,?_⟩
      rw[<- hcc]
      congr 2
      apply Array.ext'
      simp[List.append_assoc]
     have hW:WRel N σ w W.drew:=h.congr rfl
     have rel2:∀ i v,(old++new)[i]? = some v->∃ v',cc[0+i]? = some v'/\VRel σ v v':=by
      intro i v hv
      obtain⟨v',hv',hrel⟩:=(rold.append rnew).getSome hv
      refine⟨v',?_,hrel⟩
      have hi:i < (old'++new').length:=by
       rcases Nat.lt_or_ge i (old'++new').length with q|q
       . exact q
       . rw[List.getElem?_eq_none q]at hv';cases hv'
      rw[Nat.zero_add,<- hcc,Array.getElem?_append,if_pos (by simpa using hi),List.getElem?_toArray]
      exact hv'
     have hCs:(n+m) * size≤C * size:=Nat.mul_le_mul_right _ hge
     refine⟨σ.with w.next ⟨W.heap.size,0,cc.size,size⟩,.slice (some ⟨W.heap.size,0,none⟩) (n+m) C,W.drew.alloc (.cells cc elem),hrun,Ext.congr ?_,?_⟩
     · have single:w1=w.push (.cells (old++new) elem w.next 0 size)->Ext N σ w W.drew (σ.with w.next ⟨W.heap.size,0,cc.size,size⟩) w1 (W.drew.alloc (.cells cc elem)):=by
         intro q
         subst q
         have hle:=Emb.le_with h.fresh (⟨W.heap.size,0,cc.size,size⟩:Loc)
         refine hW.new trivial _ (fun _ _ _ _ _ q=>by injection q with _ _ q;exact q.symm) _ _ rfl ⟨rfl,by rw[lall,hccs];exact hCs,cc,elem,by show (W.heap.push _)[W.heap.size]? = _;simp,by simp,fun o v ho _=>?_⟩ (fun _ e=>by cases e)
         obtain⟨v',a1,a2⟩:=rel2 o v ho
         exact⟨v',a1,a2.mono hle⟩
       rcases cases3 with ⟨_,q⟩|⟨b,o,c,e,r,bs,z2,q,hk,q2⟩
       . exact single q
       · rcases q2 with ⟨_,q⟩|⟨_,q6,q7⟩
         . exact single q
         · subst q6 q7
           have hb:∃ y,σ b=some y:=by
            rcases wheres with (⟨q',_⟩|⟨b3,o3,y3,q',_,hb3,_⟩)|⟨b3,o3,y3,_,q',_,hb3,_⟩
            rotate_left 2
            . rw[q]at q';injection q' with q';injection q' with q8 q9;subst q8;exact⟨y3,hb3⟩
            . rw[q]at q';cases q'
            . rw[q]at q';injection q' with q';injection q' with q8 q9;subst q8;exact⟨y3,hb3⟩
           obtain⟨y,hb⟩:=hb
           have hall:∀ j u,σ j=some u->(∀ c,w.blk j ≠ some (.given c))->u.c ≠ W.heap.size:=fun j u hj hg=>by
            obtain⟨_,kk,hkk,_,hr⟩:=h.dom j u hj
            have:=hr.lt fun c e=>hg c (e ▸ hkk);omega
           refine hW.grown hb hk hfull ⟨W.heap.size,0,cc.size,z2⟩ rfl h.old (by rw[lall];show _≤cc.size;rw[hccs];exact hCs)
            ⟨cc,elem,by show (W.heap.push _)[W.heap.size]? = _;simp,by simp,fun i v hv _=>rel2 i v hv⟩
            ((BelowD.refl N W.drew).alloc h.old _) (fun j u hj _ hne=>?_) (.inl hall)
           show (W.heap.push _)[u.c]? = W.heap[u.c]?
           rw[Array.getElem?_push,if_neg hne]
     . have:=VRel.slice (σ:=σ.with w.next ⟨W.heap.size,0,cc.size,size⟩) (b:=w.next) (o:=0) (n:=n+m) (k:=n+m) (k':=C) (Emb.with_self _ _ _) hge (.inr ⟨by show 0 < size;omega,by show 0+C * size≤cc.size;omega⟩)
       simpa using this
theorem intLt_eq (a b:Int):intLt a b=decide (a < b):=by
 cases a <;> cases b <;> simp only[intLt,Int.ofNat_eq_natCast]
 . rw[Bool.eq_iff_iff,Nat.blt_eq,decide_eq_true_iff];omega
 . symm;rw[decide_eq_false_iff_not];omega
 . symm;rw[decide_eq_true_iff];omega
 . rw[Bool.eq_iff_iff,Nat.blt_eq,decide_eq_true_iff];omega
theorem intEq_eq (a b:Int):intEq a b=(a == b):=by
 cases a <;> cases b <;> simp only[intEq,Int.ofNat_eq_natCast]
 . rw[Bool.eq_iff_iff,Nat.beq_eq,beq_iff_eq];omega
 . symm;rw[beq_eq_false_iff_ne];omega
 . symm;rw[beq_eq_false_iff_ne];omega
 . rw[Bool.eq_iff_iff,Nat.beq_eq,beq_iff_eq];omega
theorem small_eq (k:IntKind) (n:Int):small k n=k.wrap n:=by
 unfold small
 split
 · rename_i a
   split
   . rename_i h
     have h:=Nat.blt_eq.mp h
     cases k <;> simp[IntKind.wrap,IntKind.signed,IntKind.bits] <;> omega
   . rfl
 . rfl
theorem bytesEq_eq:∀ (a b:List UInt8),bytesEq a b=(a == b)
 | [],[]=>rfl
 | [],_ :: _=>rfl
 | _ :: _,[]=>rfl
 | x :: a,y :: b=>by
  simp only[bytesEq]
  split
  . rename_i h
    have h:=Nat.eq_of_beq_eq_true h
    have:x=y:=UInt8.toNat_inj.1 h
    subst this
    rw[bytesEq_eq a b];simp
  . rename_i h
    have h:=Nat.ne_of_beq_eq_false h
    symm
    rw[beq_eq_false_iff_ne]
    intro e;injection e with e1 e2;subst e1;exact h rfl
theorem sameKind_eq {j k:IntKind} (h:sameKind j k=true):j=k:=by cases j <;> cases k <;> simp_all [sameKind]
theorem ev_rel {σ:Emb} {n:Nat} {t:Tmps} {a:Act} (ht:TRel σ n t a.tmps) {x:Operand} (hx:fits n x=true):VRel σ (ev t x) (a.eval x):=by
 cases x with
 | tmp i=>exact ht.at_ i (Nat.blt_eq.mp hx)
 | const v=>exact plain_rel 8 v hx σ
 | global g=>cases hx
 | func f=>exact .func (.func f) rfl rfl (fun _=>by simpa using VRel.undef σ) (fun _=>by simpa using VRel.undef σ)
theorem same_of {P:Program} {σ:Emb} {W:World} {m:Sem Value} {v:Value} (hv:VRel σ v v) (hr:m.run P W=.ok v W):∃ v',m.run P W=.ok v' W/\VRel σ v v':=⟨v,hr,hv⟩
theorem q_bin {P:Program} {σ:Emb} {W:World} {op:BinOp} {ty:TypeId} {X Y:Operand} {x y x' y' v:Value} (hx:VRel σ x x') (hy:VRel σ y y') (h:binV op x y=some v) :
    ∃ v',((do eqGuard op ty X Y x' y';binOp op ty x' y':Sem Value)).run P W=.ok v' W/\VRel σ v v':=by
 unfold binV at h
 split at h
 · split at h
   case h_2=>cases h
   rename_i hk
   have hk:=sameKind_eq hk
   subst hk
   cases hx;cases hy
   split at h
   case h_9=>cases h
   all_goals
    injection h with h;subst h
    refine same_of (by first|exact .bool _|exact .int _ _) ?_
    simp[eqGuard,binOp,Op.intCmp,Op.intArith,intLt_eq,intEq_eq,small_eq,bne]
    try (rw[Bool.eq_iff_iff];simp;done)
    try (rw[Bool.eq_iff_iff];simp;omega)
 · split at h
   case h_3=>cases h
   all_goals
    injection h with h;subst h
    cases hx;cases hy
    refine same_of (.bool _) ?_
    simp only[eqGuard,binOp,Op.stringOp,bytesEq_eq,ByteArray.toList_eq]
    rfl
 . cases h
theorem prun_run {α:Type} (P:Program):∀ (m:Sem α) (x:α),prun P m=some x->∀ W,m.run P W=.ok x W
 | .pure a,x,h,W=>by simp only[prun,Option.some.injEq]at h;subst h;rfl
 | .choose q k,x,h,W=>by
  simp only[prun]at h
  split at h
  . rename_i hq
    have:=prun_run P (k 0) x h W
    simp only[Sem.run,hq,if_true];exact this
  . cases h
 | .program k,x,h,W=>prun_run P (k P) x h W
 | .mark _ k,x,h,W=>prun_run P k x h W
 | .load ..,_,h,_|.store ..,_,h,_|.new ..,_,h,_|.shape ..,_,h,_|.freeze ..,_,h,_|.frozen ..,_,h,_|.getObj ..,_,h,_|.setObj ..,_,h,_|.sys ..,_,h,_|.halt ..,_,h,_=>by cases h
theorem flats_rel {n:Nat} (ih:∀ v,flat n v=true->∀ σ u,VRel σ v u->u=v):∀ {l:List Value},flat.flats n l=true->∀ σ l',LRel σ l l'->l'=l
 | [],_,_,_,.nil=>rfl
 | v :: l,h,σ,_,.cons hv ht=>by
  simp only[flat.flats,Bool.and_eq_true]at h
  rw[ih v h.1 σ _ hv,flats_rel ih h.2 σ _ ht]
theorem flat_eq:∀ (n:Nat) (v:Value),flat n v=true->∀ σ u,VRel σ v u->u=v
 | 0,v,h,_,_,_=>by simp[flat]at h
 | n + 1,v,h,σ,u,r=>by
  unfold flat at h
  split at h
  . cases r;rfl
  . cases r;rfl
  . cases r;rfl
  . cases r;rfl
  . cases r;rfl
  · cases r with
    | agg ha hav =>
     have:=flats_rel (flat_eq n) h σ _ (ARel.iff.1 ⟨ha,hav⟩)
     exact congrArg Value.agg (Array.ext' this)
  · cases r with
    | unit=>rfl
    | tuple ha hav =>
     have:=flats_rel (flat_eq n) h σ _ (ARel.iff.1 ⟨ha,hav⟩)
     exact congrArg Value.tuple (Array.ext' this)
  . cases h
theorem flats_self {n:Nat} (ih:∀ v,flat n v=true->∀ σ,VRel σ v v):∀ {l:List Value},flat.flats n l=true->∀ σ,LRel σ l l
 | [],_,_=>.nil
 | v :: l,h,σ=>by
  simp only[flat.flats,Bool.and_eq_true]at h
  exact .cons (ih v h.1 σ) (flats_self ih h.2 σ)
theorem flat_self:∀ (n:Nat) (v:Value),flat n v=true->∀ σ,VRel σ v v
 | 0,v,h,_=>by simp[flat]at h
 | n+1,v,h,σ=>by
  unfold flat at h
  split at h
  . exact .bool _
  . exact .int _ _
  . exact .float _ _
  . exact .complex _ _ _
  . exact .string _
  . exact .agg_of (ARel.iff.2 (flats_self (flat_self n) h σ))
  . exact .tuple_of (ARel.iff.2 (flats_self (flat_self n) h σ))
  . cases h
theorem flatOps_mem {t:Tmps}:∀ {l:List Operand},flatOps t l=true->∀ x ∈ l,flat 6 (ev t x)=true
 | [],_,x,hx=>by cases hx
 | y :: l,h,x,hx=>by
  simp only[flatOps,Bool.and_eq_true]at h
  rcases List.mem_cons.1 hx with rfl|q
  . exact h.1
  . exact flatOps_mem h.2 x q
theorem q_flat {P:Program} {σ:Emb} {t:Tmps} {a:Act} {o:Oper} (W:World) (hop:∀ x ∈ o.op.operands.toList,VRel σ (ev t x) (a.eval x)) (hk:flatKind o.op=true)
    (hflat:flatOps t o.op.operands.toList=true) {v:Value} (hr:prun P (execOp (ev t) o)=some (.value v)) (hv:flat 6 v=true) :
    ∃ v',(execOp a.eval o).run P W=.ok (.value v') W/\VRel σ v v':=by
 have e:execOp a.eval o=execOp (ev t) o:=by
  refine execOp_congr o (fun cs b q=>by rw[q]at hk;cases hk) fun x hx=>?_
  have hx':x ∈ o.op.operands.toList:=by simpa using hx
  exact flat_eq 6 _ (flatOps_mem hflat x hx') σ _ (hop x hx')
 exact⟨v,by rw[e];exact prun_run P _ _ hr W,flat_self 6 v hv σ⟩
variable {P:Program} {N:Nat} {σ:Emb} {w:AW} {W:World}
theorem isAgg_ty (hP:Fit P) {ty:TypeId} {i:TI} (hi:(prg P).ty ty=some i) (W:World):(isAgg ty).run P W=.ok i.agg W:=by
 obtain⟨info,z,i1,i2,i3,i4,i5,i6,i7⟩:=ty_spec hP.types hi
 rw[i7]
 simp only[isAgg,Sem.run_bind,run_underlying i2,Result.andThen_ok]
 cases i.und <;> rfl
theorem q_load (hP:Fit P) (h:WRel N σ w W) {ty:TypeId} {i:TI} (hi:(prg P).ty ty=some i) {x x' v:Value} (hx:VRel σ x x') (hv:loadV w i.agg i.size x=some v) :
    ∃ v',(Instr.loadAt ty x').run P W=.ok v' W/\VRel σ v v':=by
 obtain⟨info,z,i1,i2,i3,i4,i5,i6,i7⟩:=ty_spec hP.types hi
 unfold loadV at hv
 split at hv
 case h_2=>cases hv
 rename_i b o
 cases hx with
 | ptr hb =>
  rename_i y
  split at hv
  . rename_i hagg
    split at hv
    case h_2=>cases hv
    rename_i l hl
    injection hv with hv;subst hv
    obtain⟨l',hr,hrun⟩:=h.loadRow P hb hl
    refine⟨.agg l'.toArray,?_,.agg_of (ARel.iff.2 (by simpa using hr))⟩
    simp only[Instr.loadAt,Instr.sureAddr,loadVar,Sem.run_bind,Sem.run_pure,Result.andThen_ok,isAgg_ty hP hi,hagg]
    simp[sizeOf,typeInfo,i1,i3,hrun]
  . rename_i hagg
    obtain⟨v',hv',hr,_⟩:=h.cell hb hv
    refine⟨v',?_,hr⟩
    simp only[Instr.loadAt,Instr.sureAddr,loadVar,Sem.run_bind,Sem.run_pure,Result.andThen_ok,isAgg_ty hP hi,hagg]
    simp[hv']
theorem q_index (hP:Fit P) {ty e:TypeId} {i j:TI} (hi:(prg P).ty ty=some i) (hu:i.und=.slice e) (hj:(prg P).ty e=some j) {x x' k k' v:Value} (hx:VRel σ x x') (hk:VRel σ k k')
    (hv:indexV j.size x k=some v):∃ v',(Instr.indexAt ty x' k').run P W=.ok v' W/\VRel σ v v':=by
 obtain⟨info,z,i1,i2,i3,_⟩:=ty_spec hP.types hi
 obtain⟨info',z',j1,j2,j3,_⟩:=ty_spec hP.types hj
 rw[hu]at i2
 unfold indexV at hv
 split at hv
 case h_2=>cases hv
 rename_i b o n _ _ q
 split at hv
 case h_2=>cases hv
 rename_i hlt
 have hlt:=Nat.blt_eq.mp hlt
 injection hv with hv;subst hv
 cases hk
 cases hx with
 | tail hb a=>exact absurd hlt (Nat.not_lt_zero _)
 | slice hb hk hr =>
  rename_i k' y
  refine⟨_,?_,.ptr hb (o:=o+q * j.size)⟩
  simp[Instr.indexAt,asIntOf,run_underlying i2,sizeOf,typeInfo,j1,j3,hlt,add_eq,Nat.add_assoc]
theorem q_indexA (hP:Fit P) {ty e:TypeId} {len:Nat} {i j:TI} (hi:(prg P).ty ty=some i) (hu:i.und=.array len e) (hj:(prg P).ty e=some j) {x x' k k' v:Value} (hx:VRel σ x x') (hk:VRel σ k k')
    (hv:indexA j.size len x k=some v):∃ v',(Instr.indexAt ty x' k').run P W=.ok v' W/\VRel σ v v':=by
 obtain⟨info,z,i1,i2,i3,_⟩:=ty_spec hP.types hi
 obtain⟨info',z',j1,j2,j3,_⟩:=ty_spec hP.types hj
 rw[hu]at i2
 unfold indexA at hv
 split at hv
 case h_2=>cases hv
 rename_i b o _ q
 split at hv
 case h_2=>cases hv
 rename_i hlt
 have hlt:=Nat.blt_eq.mp hlt
 injection hv with hv;subst hv
 cases hk
 cases hx with
 | ptr hb =>
  refine⟨_,?_,.ptr hb (o:=o+q * j.size)⟩
  simp[Instr.indexAt,Instr.sureAddr,asIntOf,run_underlying i2,sizeOf,typeInfo,j1,j3,hlt,add_eq,Nat.add_assoc]
theorem q_len (hP:Fit P) {ty e:TypeId} {i:TI} (hi:(prg P).ty ty=some i) (hu:i.und=.slice e) {x x' v:Value} (rt:TypeId) (hx:VRel σ x x') (hv:lenV x=some v) :
    ∃ v',(Builtin.len_ #[ty] rt #[x']).run P W=.ok v' W/\VRel σ v v':=by
 obtain⟨info,z,i1,i2,i3,_⟩:=ty_spec hP.types hi
 rw[hu]at i2
 unfold lenV at hv
 split at hv
 case h_2=>cases hv
 rename_i b n k
 injection hv with hv;subst hv
 refine same_of (.int _ _) ?_
 cases hx <;> simp[Builtin.len_,run_underlying i2,goInt]
theorem q_lenM (hP:Fit P) (h:WRel N σ w W) {ty kt e:TypeId} {i:TI} (hi:(prg P).ty ty=some i) (hu:i.und=.map kt e) {x x' v:Value} (rt:TypeId) (hx:VRel σ x x') (hv:lenM w x=some v) :
    ∃ v',(Builtin.len_ #[ty] rt #[x']).run P W=.ok v' W/\VRel σ v v':=by
 obtain⟨info,z,i1,i2,i3,_⟩:=ty_spec hP.types hi
 rw[hu]at i2
 unfold lenM at hv
 split at hv
 . injection hv with hv;subst hv
   cases hx
   exact same_of (.int _ _) (by simp[Builtin.len_,run_underlying i2,goInt])
 · rename_i r
   split at hv
   case h_2=>cases hv
   rename_i es clock hblk
   injection hv with hv;subst hv
   cases hx with
   | map hb =>
    obtain⟨_,k,hk,_,hr⟩:=h.dom _ _ hb
    rw[hblk]at hk;injection hk with hk;subst hk
    obtain⟨es',he,hrel⟩:=hr
    refine same_of (.int _ _) ?_
    simp[Builtin.len_,run_underlying i2,goInt,getObj,Sem.run,he,hrel.size]
 . cases hv
theorem q_extract {x x' v:Value} {i:Nat} (hx:VRel σ x x') (hv:extractV i x=some v):∃ v',(Instr.extract x' i).run P W=.ok v' W/\VRel σ v v':=by
 unfold extractV at hv
 split at hv
 case h_2=>cases hv
 rename_i vs
 rw[getL_eq]at hv
 cases hx with
 | unit=>simp at hv
 | tuple ha hav =>
  obtain⟨v',h1,h2⟩:=(ARel.iff.1 ⟨ha,hav⟩).getSome hv
  refine⟨v',?_,h2⟩
  simp only[Instr.extract]
  rw[<- Array.getElem?_toList,h1]
  rfl
theorem LRel.drop {σ:Emb} {a b:List Value} (r:LRel σ a b) (k:Nat):LRel σ (a.drop k) (b.drop k):=by
 induction r generalizing k with
 | nil=>simpa using LRel.nil
 | cons v t ih=>cases k with
  | zero=>exact .cons v t
  | succ k=>exact ih k
theorem LRel.take {σ:Emb} {a b:List Value} (r:LRel σ a b) (k:Nat):LRel σ (a.take k) (b.take k):=by
 induction r generalizing k with
 | nil=>simpa using LRel.nil
 | cons v t ih=>cases k with
  | zero=>exact .nil
  | succ k=>exact .cons v (ih k)
theorem LRel.set {σ:Emb} {a b:List Value} (r:LRel σ a b) (k:Nat) {v u:Value} (h:VRel σ v u):LRel σ (a.set k v) (b.set k u):=by
 induction r generalizing k with
 | nil=>exact .nil
 | cons hv t ih=>cases k with
  | zero=>exact .cons h t
  | succ k=>exact .cons hv (ih k)
theorem q_part (hP:Fit P) {ty:TypeId} {i:TI} (hi:(prg P).ty ty=some i) {cs cs':Array Value} {off:Nat} {v:Value} (hc:ARel σ cs cs') (hv:partV i.agg i.size cs off=some v) :
    ∃ v',(part ty cs' off).run P W=.ok v' W/\VRel σ v v':=by
 obtain⟨info,z,i1,i2,i3,i4,i5,i6,i7⟩:=ty_spec hP.types hi
 have hl:=ARel.iff.1 hc
 unfold partV at hv
 split at hv
 · rename_i hagg
   injection hv with hv;subst hv
   refine⟨.agg (cs'.extract off (off+i.size)),?_,.agg_of (ARel.iff.2 ?_)⟩
   . simp only[part,Sem.run_bind,isAgg_ty hP hi,hagg,Result.andThen_ok]
     simp[sizeOf,typeInfo,i1,i3]
   . simp only[Array.toList_extract,List.extract_eq_take_drop]
     exact (hl.drop _).take _
 . rename_i hagg
   rw[getL_eq]at hv
   obtain⟨v',h1,h2⟩:=hl.getSome hv
   refine⟨v',?_,h2⟩
   simp only[part,Sem.run_bind,isAgg_ty hP hi,hagg,Result.andThen_ok,Bool.false_eq_true,if_false]
   rw[<- Array.getElem?_toList,h1]
   rfl
set_option maxHeartbeats 2000000 in
theorem q_nil {d:TypeDesc} {op:BinOp} {ty:TypeId} (hu:P.underlying ty=some d) {X Y:Operand} {x y x' y' v:Value} (hx:VRel σ x x') (hy:VRel σ y y') (hv:eqNilV d op x y=some v) :
    ∃ v',((do eqGuard op ty X Y x' y';binOp op ty x' y':Sem Value)).run P W=.ok v' W/\VRel σ v v':=by
 have key : ∀ b,eqNil d x y=some b->(Op.equal ty x' y').run P W=.ok b W/\(∀ op,(eqGuard op ty X Y x' y').run P W=.ok () W)/\binOp .eql ty x' y'=(do pure (.bool (<- Op.equal ty x' y')))/\binOp .neq ty x' y'=(do pure (.bool (!(<- Op.equal ty x' y')))):=by
  intro b hb
  unfold eqNil at hb
  split at hb
  all_goals first
   | cases hb;done
   | (injection hb with hb;subst hb
      cases hx <;> cases hy <;> refine⟨?_,fun op=>?_,rfl,rfl⟩ <;> first
       | (rw[Op.equal,show Op.maxDepth=9999+1 from rfl,Op.equalIn];simp[run_underlying hu];done)
       | (cases op <;> simp[eqGuard];done))
 unfold eqNilV at hv
 split at hv
 . split at hv
   case h_2=>cases hv
   rename_i b hb
   injection hv with hv;subst hv
   obtain⟨h1,h2,h3,_⟩:=key b hb
   exact same_of (.bool _) (by simp[h1,h2,h3])
 . split at hv
   case h_2=>cases hv
   rename_i b hb
   injection hv with hv;subst hv
   obtain⟨h1,h2,_,h3⟩:=key b hb
   exact same_of (.bool _) (by simp[h1,h2,h3])
 . cases hv
theorem q_nilC {d:TypeDesc} {op:BinOp} {ty:TypeId} (hu:P.underlying ty=some d) {X Y:Operand} {x x' v:Value} {a:Operand->Value} (hY:∀ u,a (.const u)=u) (hx:VRel σ x x') (hv:nilC d op Y x=some v) :
    ∃ v',((do eqGuard op ty X Y x' (a Y);binOp op ty x' (a Y):Sem Value)).run P W=.ok v' W/\VRel σ v v':=by
 unfold nilC at hv
 split at hv
 case h_2=>cases hv
 cases hx
 rw[hY]
 have h1:(Op.equal ty .nilIface .nilIface).run P W=.ok true W:=by
  rw[Op.equal,show Op.maxDepth=9999+1 from rfl,Op.equalIn];simp[run_underlying hu]
 split at hv
 . injection hv with hv;subst hv
   exact same_of (.bool _) (by simp[eqGuard,binOp,h1])
 . injection hv with hv;subst hv
   exact same_of (.bool _) (by simp[eqGuard,binOp,h1])
 . cases hv
end Go.Sim
