/- Open calls of the machine, part 2: memory; what a call is given; how a law closes. -/
import Derived.Test.YtnbfkakjdifcpaaGreatNa
import Derived.IntWalk
import GoSem.ClaimChange
import Derived.ChangeArms
import Derived.Carry
import Derived.ChangeAt
import Derived.RowKit
import Derived.JoinedOf
set_option linter.unusedVariables false
set_option linter.unusedSimpArgs false
namespace Go.Sim
open Go Go.RowKit
variable {P:Program} {told:ToldF} {env:Env}
structure Keep (B:Nat) (w w':AW):Prop where
 blk:∀ b,b < B->w'.blk b=w.blk b
 fam:∀ r,r < B->w'.family r=w.family r
 next:w.next≤w'.next
theorem Keep.refl (B:Nat) (w:AW):Keep B w w:=⟨fun _ _=>rfl,fun _ _=>rfl,Nat.le_refl _⟩
theorem Keep.trans {B:Nat} {a b c:AW} (h:Keep B a b) (k:Keep B b c):Keep B a c :=
 ⟨fun i hi=>(k.blk i hi).trans (h.blk i hi),fun i hi=>(k.fam i hi).trans (h.fam i hi),Nat.le_trans h.next k.next⟩
theorem Keep.mono {B C:Nat} {a b:AW} (h:Keep B a b) (k:C≤B):Keep C a b:=⟨fun i hi=>h.blk i (by omega),fun i hi=>h.fam i (by omega),h.next⟩
theorem Keep.push {B:Nat} {a w:AW} (h:Keep B a w) (hB:B≤w.next) (k:Blk):Keep B a (w.push k) :=
 ⟨fun i hi=>by rw[AW.blk_push _ _ _ (Trie.in_ _) (Trie.in_ _),if_neg (by omega)];exact h.blk i hi,fun i hi=>by rw[AW.family_push];exact h.fam i hi,by rw[AW.next_push];have:=h.next;omega⟩
theorem Keep.wle {w w':AW} (f:Fresh w) (h:Keep w.next w w'):WLe w w':=fun b x hb=>by
 rw[h.blk b]
 . exact hb
 . rcases Nat.lt_or_ge b w.next with q|q
   . exact q
   . rw[f.1 b q]at hb;cases hb
theorem Keep.cell {B:Nat} {w w':AW} (h:Keep B w w') {b o:Nat} (hb:b < B):w'.cell? ⟨b,o,none⟩=w.cell? ⟨b,o,none⟩:=by
 simp only[AW.cell?,h.blk b hb]
theorem Fresh.put {w:AW} (h:Fresh w) {b:Nat} (hb:b < w.next) (k:Blk):Fresh (w.put b k):=⟨fun i hi=>by
 rw[AW.next_put]at hi
 rw[AW.blk_put _ _ _ _ (Trie.in_ _) (Trie.in_ _),if_neg (by omega)];exact h.1 i hi,fun r hr=>by rw[AW.next_put]at hr;rw[AW.family_put];exact h.2 r hr⟩
theorem mk_list {α:Type} (l:List α):Array.mk l=l.toArray:=rfl
theorem blk_push_top (w:AW) (k:Blk):(w.push k).blk w.next=some k:=by rw[AW.blk_push _ _ _ (Trie.in_ _) (Trie.in_ _),if_pos rfl]
theorem blk_push_ne {w:AW} {b:Nat} (h:b < w.next) (k:Blk):(w.push k).blk b=w.blk b:=by rw[AW.blk_push _ _ _ (Trie.in_ _) (Trie.in_ _),if_neg (by omega)]
def atL (c:List Value) (o:Nat):Option Value :=
 match getL c o with
 | some v=>match oneCell v with
  | true=>some v
  | false=>none
 | none=>none
theorem aCells_succ (w:AW) (b o n:Nat):aCells w b o (n+1)=match w.cell? ⟨b,o,none⟩ with
    | some v=>match aCells w b (o+1) n with
     | some l=>some (v :: l)
     | none=>none
    | none=>none:=rfl
def Arr (B:Nat) (w:AW) (z:Nat) (v:Value) (rows:List (List Value)):Prop :=
 ∃ p n cap,v=.slice p n cap/\rows.length=n/\n≤cap/\(cap:Int)≤140737488355328 /\
  (0 < n->∃ b o,p=some ⟨b,o,none⟩/\b < B/\∀ (i j:Nat) r x,rows[i]? = some r->r[j]? = some x->w.cell? ⟨b,o+i * z+j,none⟩=some x)
theorem Arr.keep {B C:Nat} {w w':AW} {z:Nat} {v:Value} {rows:List (List Value)} (h:Arr B w z v rows) (k:Keep C w w') (hBC:B≤C):Arr B w' z v rows:=by
 obtain⟨p,n,cap,a,b,c,c2,d⟩:=h
 exact⟨p,n,cap,a,b,c,c2,fun hn=>let ⟨bb,o,e,f,g⟩:=d hn;⟨bb,o,e,f,fun i j r x hr hx=>by rw[k.cell (by omega)];exact g i j r x hr hx⟩⟩
theorem Arr.mono {B C:Nat} {w:AW} {z:Nat} {v:Value} {rows:List (List Value)} (h:Arr B w z v rows) (k:B≤C):Arr C w z v rows:=by
 obtain⟨p,n,cap,a,b,c,c2,d⟩:=h
 exact⟨p,n,cap,a,b,c,c2,fun hn=>let ⟨bb,o,e,f,g⟩:=d hn;⟨bb,o,e,by omega,g⟩⟩
theorem indexV_eq {z b o n c:Nat} {q:IntKind} {i:Int} (h0:0≤i) (h1:i < (n:Int)):indexV z (.slice (some ⟨b,o,none⟩) n c) (.int q i)=some (.pointer (some ⟨b,o+i.toNat * z,none⟩)):=by
 obtain⟨k,rfl⟩:=Int.eq_ofNat_of_zero_le h0
 have:Nat.blt k n=true:=by rw[Nat.blt_eq];omega
 show (match Nat.blt k n with|true=>_|false=>_)=_
 rw[this]
 rfl
theorem lenV_eq (p:Option Addr) (n c:Nat):lenV (.slice p n c)=some (.int .i64 (n:Int)):=rfl
section
variable {g:Prg} {t:Tmps} {w:AW}
theorem fast_indexAddr {ty e:TypeId} {x i:Operand} {a1 a2:Bool} {n1 b1 n2 b2:Nat} {d2:TypeDesc} {z1 z2:Value} (h:g.ty ty=some ⟨a1,.slice e,n1,b1,z1⟩) (h2:g.ty e=some ⟨a2,d2,n2,b2,z2⟩) :
    fast g t w (.indexAddr ty x i)=indexV n2 (ev t x) (ev t i):=by simp only[fast,h,h2]
theorem fast_len {ty e:TypeId} {x:Operand} {a1:Bool} {n1 b1:Nat} {z1:Value} (h:g.ty ty=some ⟨a1,.slice e,n1,b1,z1⟩) :
    fast g t w (.call ⟨.builtin .len,⟨[x]⟩,⟨[ty]⟩⟩)=lenV (ev t x):=by simp only[fast,h]
def fieldOff (v:Value) (off:Nat):Option Value :=
 match v with
 | .pointer (some ⟨b,o,none⟩)=>some (.pointer (some ⟨b,o+off,none⟩))
 | _=>none
theorem fieldOff_eq (b o off:Nat):fieldOff (.pointer (some ⟨b,o,none⟩)) off=some (.pointer (some ⟨b,o+off,none⟩)):=rfl
theorem fast_fieldAddr {s:TypeId} {x:Operand} {f:Nat} {a1 a2:Bool} {n1 b1 n2 b2:Nat} {fields:Array Field} {fd:Field} {d2:TypeDesc} {z1 z2:Value} (h:g.ty s=some ⟨a1,.struct fields,n1,b1,z1⟩) (hf:fields.toList[f]? = some fd)
    (h2:g.ty fd.type=some ⟨a2,d2,n2,b2,z2⟩) (hn:Nat.beq n2 0=false):fast g t w (.fieldAddr s x f)=fieldOff (ev t x) fd.offset:=by
 simp only[fast,h,fieldOff]
 cases ev t x with
 | pointer a=>cases a with
  | none=>rfl
  | some a =>
   obtain⟨b,o,e⟩:=a
   cases e with
   | none=>simp only[getL_eq,hf,h2,hn]
   | some e=>rfl
 | _=>rfl
def bldQ (ps:List (Nat × Nat)) (zero:List Value) (l:List (Nat × Value)):Option Value :=
 match Instr.fill (getL ps ·) zero.toArray l with
 | some c=>some (.agg c)
 | none=>none
theorem fast_build {ty:TypeId} {l:List (Nat × Operand)} {a1:Bool} {n1 b1:Nat} {fields:Array Field} {zs:List Value} {ps:List (Nat × Nat)} (h:g.ty ty=some ⟨a1,.struct fields,n1,b1,.agg zs.toArray⟩) (hp:fast.places g fields.toList=some ps) :
    fast g t w (.build ty ⟨l⟩)=bldQ ps zs (l.map fun p=>(p.1,ev t p.2)):=by
 simp only[fast,h,hp,bldQ,Value.cells]
 have:(Array.mk l).map (fun (i,x)=>(i,ev t x))=(l.map fun p=>(p.1,ev t p.2)).toArray:=by simp
 rw[this]
 rfl
theorem cells_one {v:Value} (h:oneCell v=true):v.cells = #[v]:=by cases v <;> first|rfl|cases h
theorem bldQ_zero (ps:List (Nat × Nat)) (zero:List Value):bldQ ps zero []=some (.agg zero.toArray):=rfl
theorem loadV_one (b o n:Nat):loadV w false n (.pointer (some ⟨b,o,none⟩))=w.cell? ⟨b,o,none⟩:=rfl
theorem loadV_row (b o n:Nat):loadV w true n (.pointer (some ⟨b,o,none⟩))=match aCells w b o n with|some l=>some (.agg l.toArray)|none=>none:=rfl
end
theorem Trie.setP_setP {α:Type} (x y:α):∀ (p:List Bool) (t:Trie α),Trie.setP x p (Trie.setP y p t)=Trie.setP x p t
 | [],t=>by cases t <;> rfl
 | d :: p,t=>by cases t <;> cases d <;> simp[Trie.setP,Trie.setP_setP x y p]
theorem store_own {w:AW} {b o:Nat} {c:List Value} {e:TypeId} {z:Nat} {v u:Value} (hb:w.blk b=some (.cells c e b 0 z)) (hf:w.family b=[]) (hu:getL c o=some u) (hv:oneCell v=true) :
    w.store ⟨b,o,none⟩ v=some (w.put b (.cells (setL c o v) e b 0 z)):=by
 unfold AW.store
 simp only[hv,hb,hu,hf,strikes]
def setsL:List Value->Nat->List Value->List Value
 | c,_,[]=>c
 | c,o,v :: l=>setsL (setL c o v) (o+1) l
theorem nbeq (a b:Nat):Nat.beq a b=decide (a=b):=by
 by_cases h:a=b
 . subst h;simp
 . simp only[h,decide_false];cases q:Nat.beq a b with
   | false=>rfl
   | true=>exact absurd (Nat.eq_of_beq_eq_true q) h
theorem wrap64 {n:Int} (h1:-9223372036854775808≤n) (h2:n≤9223372036854775807):IntKind.i64.wrap n=n:=IntWalk.i64_in n ⟨h1,h2⟩
theorem same_int (n:Int):same 12 (.int .i64 n) (.int .i64 n)=true:=by simp[same,intEq_eq]
theorem same_bool (b:Bool):same 12 (.bool b) (.bool b)=true:=by cases b <;> rfl
theorem same_ptr (b o:Nat):same 12 (.pointer (some ⟨b,o,none⟩)) (.pointer (some ⟨b,o,none⟩))=true:=by simp[same]
theorem same_slice (b o n c:Nat):same 12 (.slice (some ⟨b,o,none⟩) n c) (.slice (some ⟨b,o,none⟩) n c)=true:=by simp[same]
theorem same_sliceP (p:Option Addr) (n c:Nat):same 12 (.slice p n c) (.slice p n c)=true:=by
 cases p with
 | none=>simp[same]
 | some a=>obtain⟨b,o,s⟩:=a;cases s <;> simp[same]
theorem same_nil:same 12 (.slice none 0 0) (.slice none 0 0)=true:=rfl
theorem same_agg2 (a b:Int):same 12 (.agg #[.int .i64 a,.int .i64 b]) (.agg #[.int .i64 a,.int .i64 b])=true:=by simp[same,same.all,intEq_eq]
theorem same_string (s:ByteArray):same 12 (.string s) (.string s)=true:=by simp[same,bytesEq_eq]
theorem nx:(∀ (w:AW) (x:Blk),(w.push x).next=w.next+1)/\(∀ (w:AW) (b:Nat) (x:Blk),(w.put b x).next=w.next):=⟨AW.next_push,AW.next_put⟩
theorem smA:(∀ n:Int,same 12 (.int .i64 n) (.int .i64 n)=true)/\(∀ b:Bool,same 12 (.bool b) (.bool b)=true)/\(∀ b o:Nat,same 12 (.pointer (some ⟨b,o,none⟩)) (.pointer (some ⟨b,o,none⟩))=true) /\
    (∀ b o n c:Nat,same 12 (.slice (some ⟨b,o,none⟩) n c) (.slice (some ⟨b,o,none⟩) n c)=true)/\(∀ (p:Option Addr) (n c:Nat),same 12 (.slice p n c) (.slice p n c)=true)/\same 12 (.slice none 0 0) (.slice none 0 0)=true /\
    (∀ a b:Int,same 12 (.agg #[.int .i64 a,.int .i64 b]) (.agg #[.int .i64 a,.int .i64 b])=true)/\(∀ s:ByteArray,same 12 (.string s) (.string s)=true) :=
 ⟨same_int,same_bool,same_ptr,same_slice,same_sliceP,same_nil,same_agg2,same_string⟩
attribute [go_sem] Array.append_empty List.toList_toArray List.append_nil List.nil_append List.cons_append List.map_cons List.map_nil fill_cons fill_nil CodeR seqQ blockQ SeqR Wants_true Wants_false wants_none wants_some guardB_true guardB_false Owes_false Then_some ev_put ev_put_none ev_const ev_func step_move step_assign step_pick step_bin step_un step_load step_fieldAddr step_indexAddr step_field step_convert step_extract step_build step_slice step_makeFunc step_makeMap step_mapUpdate step_lookup step_len step_alloc step_box step_buildSlice step_store step_append step_call loopQ_exit loopQ_ret Nat.zero_mul bldQ_zero CallR_func orElse_some orElse_none binQ intQ unQ maxQ minQ sameKind pickV extractV Left_ret Left_normal res_nil res_tmp res_cell tupled Cond_true Cond_false nbeq decide_true decide_false wrap64 aCells_succ lenV_eq fieldOff_eq loadV_one loadV_row AW.next_push AW.next_put same_int same_bool same_ptr same_slice same_sliceP same_nil same_agg2 same_string mk_list oneCell Value.cells getL setL setsL Bool.and_true Bool.and_false Bool.true_and Bool.false_and beq_self_eq_true Bool.not_true Bool.not_false
def convI (k:IntKind) (v:Value):Option Value:=match v with
 | .int _ n=>some (.int k (k.wrap n))
 | _=>none
theorem convI_int (k k':IntKind) (n:Int):convI k (.int k' n)=some (.int k (k.wrap n)):=rfl
theorem convQ_of {g:Prg} {src dst:TypeId} {k0 k:IntKind} (h1:g.p.underlying src=some (.int k0)) (h2:g.p.underlying dst=some (.int k)) (v:Value):convQ g src dst v=convI k v:=by
 unfold convQ convI
 rw[h1,h2]
 cases v <;> rfl
theorem wrapU64 {n:Int} (h1:0≤n) (h2:n≤18446744073709551615):IntKind.u64.wrap n=n:=by
 unfold IntKind.wrap
 simp[IntKind.signed,IntKind.bits]
 omega
attribute [go_sem] convI_int wrapU64
end Go.Sim

namespace Go.Sim
open Go Go.RowKit
theorem WRel.give {N:Nat} {σ:Emb} {w:AW} {W:World} (h:WRel N σ w W) (c:List Value) (x:Loc) (hz:x.z=0) (hl:c=[] \/ x.c < N)
    (hr:∀ o v,c[o]? = some v->oneCell v=true->∃ cc ce fr v',W.heap[x.c]? = some (.cells cc ce fr)/\cc[x.s+o]? = some v'/\VRel σ v v'):WRel N (σ.with w.next x) (w.push (.given c)) W:=by
 have hle:=Emb.le_with h.fresh x
 have hb:∀ j,(w.push (.given c)).blk j=if j=w.next then some (.given c) else w.blk j:=fun j=>AW.blk_push w j _ (Trie.in_ _) (Trie.in_ _)
 refine⟨fun j k _ hk=>?_,trivial,fun j y hj=>?_,fun j j' y y' hj hj' hc hjj=>?_,fun j c' e r base z _ hw=>?_,fun j c' e r base z _ hw=>?_,fun r j hr' hj=>?_,fun r hr' hr''=>?_,h.old⟩
 . rw[AW.next_push];rw[hb]at hk
   split at hk
   . omega
   . have:=h.wf j k (Trie.in_ _) hk;omega
 · by_cases q:j=w.next
   . subst q
     rw[Emb.with_self]at hj
     obtain rfl:=Option.some.inj hj
     exact⟨by rw[AW.next_push];omega,.given c,by rw[hb,if_pos rfl],⟨hz,hl⟩,fun o v ho hv=>let ⟨cc,ce,fr,v',a,b,d⟩:=hr o v ho hv;⟨cc,ce,fr,v',a,b,d.mono hle⟩⟩
   . rw[Emb.with_ne _ _ _ q]at hj
     obtain⟨a,k,hk,b,d⟩:=h.dom j y hj
     exact⟨by rw[AW.next_push];omega,k,by rw[hb,if_neg q];exact hk,b,d.mono hle⟩
 · by_cases q:j=w.next
   . exact .inl ⟨c,by rw[hb,if_pos q]⟩
   · by_cases q':j'=w.next
     . exact .inr (.inl ⟨c,by rw[hb,if_pos q']⟩)
     . rw[Emb.with_ne _ _ _ q]at hj;rw[Emb.with_ne _ _ _ q']at hj'
       rw[hb,hb,if_neg q,if_neg q']
       exact h.inj j j' y y' hj hj' hc hjj
 . rw[AW.family_push];rw[hb]at hw
   split at hw
   . cases hw
   . exact h.fam j c' e r base z (Trie.in_ _) hw
 . rw[AW.next_push];rw[hb]at hw
   split at hw
   . cases hw
   . have:=h.root j c' e r base z (Trie.in_ _) hw;omega
 . rw[AW.family_push]at hj
   obtain⟨y,hy⟩:=h.famIn r j hr' hj
   exact⟨y,hle j y hy⟩
 . rw[AW.family_push];rw[AW.next_push]at hr''
   exact h.famKey r hr' (by omega)
def GivenAt (w:AW) (v:Value):Prop:=∀ b o s n c,v=.slice (some ⟨b,o,s⟩) n c->0 < n->b < w.next/\∃ cs,w.blk b=some (.given cs)
theorem GivenAt.keep {w w':AW} {v:Value} (h:GivenAt w v) (k:Keep w.next w w'):GivenAt w' v:=fun b o s n c e hn=>by
 obtain⟨h1,cs,h2⟩:=h b o s n c e hn
 exact⟨Nat.lt_of_lt_of_le h1 k.next,cs,by rw[k.blk b h1];exact h2⟩
def EndAt (w:AW) (v:Value):Prop:=(∀ n c,v=.slice none n c->n=0/\c=0)/\∀ b o s n c,v=.slice (some ⟨b,o,s⟩) n c->(0 < c->s=none/\b < w.next/\∃ cs,w.blk b=some (.given cs))/\(c=0->b=0/\o=0/\s=some 0)
theorem EndAt.keep {w w':AW} {v:Value} (h:EndAt w v) (k:Keep w.next w w'):EndAt w' v:=⟨h.1,fun b o s n c e=>by
 obtain⟨h1,h2⟩:=h.2 b o s n c e
 refine⟨fun hc=>?_,h2⟩
 obtain⟨a,h1,cs,h3⟩:=h1 hc
 exact⟨a,Nat.lt_of_lt_of_le h1 k.next,cs,by rw[k.blk b h1];exact h3⟩⟩
def RoomAt (P:Program) (e:TypeId) (v:Value):Prop:=∀ p n c,v=.slice p n c->c * P.bytesOf e≤140737488351232
def Hd (P:Program) (w:AW):Nat->TypeId->List Value->Prop
 | 0,_,_=>False
 | n+1,t,cs =>
  match P.underlying t with
  | some .bool=>∃ b,cs=[.bool b]
  | some (.int k)=>∃ i,cs=[.int k i]/\k.min≤i/\i≤k.max
  | some .string=>∃ s,cs=[.string s]/\s.size≤140737488355328
  | some (.slice e)=>∃ v rows,cs=[v]/\Arr w.next w (P.cellsOf e) v rows/\(∀ r ∈ rows,Hd P w n e r)/\GivenAt w v/\RoomAt P e v/\EndAt w v
  | some (.struct fs)=>∃ parts:List (List Value),cs=parts.flatten/\parts.length=fs.size/\∀ (i:Nat) (f:Field) (p:List Value),fs[i]? = some f->parts[i]? = some p->Hd P w n f.type p
  | some (.array k e)=>∃ parts:List (List Value),cs=parts.flatten/\parts.length=k/\∀ p ∈ parts,Hd P w n e p
  | _=>False
theorem Hd.keep {P:Program} {w w':AW} (k:Keep w.next w w'):∀ {n:Nat} {t:TypeId} {cs:List Value},Hd P w n t cs->Hd P w' n t cs
 | 0,_,_,h=>h
 | n + 1,t,cs,h=>by
  unfold Hd at h ⊢
  split at h
  . exact h
  . exact h
  . exact h
  . obtain⟨v,rows,a,b,c,d⟩:=h
    exact⟨v,rows,a,(b.keep k (Nat.le_refl _)).mono k.next,fun r hr=>Hd.keep k (c r hr),d.1.keep k,d.2.1,d.2.2.keep k⟩
  . obtain⟨parts,a,b,c⟩:=h
    exact⟨parts,a,b,fun i f p h1 h2=>Hd.keep k (c i f p h1 h2)⟩
  . obtain⟨parts,a,b,c⟩:=h
    exact⟨parts,a,b,fun p hp=>Hd.keep k (c p hp)⟩
  . exact h
theorem Hd.one {P:Program} {w:AW}:∀ {n:Nat} {t:TypeId} {cs:List Value},Hd P w n t cs->∀ x ∈ cs,oneCell x=true
 | 0,_,_,h=>h.elim
 | n + 1,t,cs,h=>by
  unfold Hd at h
  split at h
  . obtain⟨b,rfl⟩:=h;intro x hx;simp only[List.mem_singleton]at hx;subst hx;rfl
  . obtain⟨b,rfl,_⟩:=h;intro x hx;simp only[List.mem_singleton]at hx;subst hx;rfl
  . obtain⟨b,rfl,_⟩:=h;intro x hx;simp only[List.mem_singleton]at hx;subst hx;rfl
  . obtain⟨v,rows,rfl,⟨p,k,cap,rfl,_⟩,_⟩:=h;intro x hx;simp only[List.mem_singleton]at hx;subst hx;rfl
  · obtain ⟨parts,rfl,hl,c⟩:=h
    intro x hx
    obtain⟨p,hp,hx⟩:=List.mem_flatten.mp hx
    obtain⟨i,hi⟩:=List.getElem?_of_mem hp
    have hil:i < parts.length:=by
     rcases Nat.lt_or_ge i parts.length with q|q
     . exact q
     . rw[List.getElem?_eq_none q]at hi;cases hi
    exact Hd.one (c i _ p (Array.getElem?_eq_getElem (by omega)) hi) x hx
  . obtain⟨parts,rfl,_,c⟩:=h
    intro x hx
    obtain⟨p,hp,hx⟩:=List.mem_flatten.mp hx
    exact Hd.one (c p hp) x hx
  . exact h.elim
def tiles (P:Program):List Field->Nat->Nat->Bool
 | [],o,n=>Nat.beq o n
 | f :: l,o,n=>Nat.beq f.offset o && tiles P l (o+P.cellsOf f.type) n
def okAt (P:Program) (S:List TypeId) (t:TypeId):Bool :=
 match P.underlying t with
 | some .bool|some (.int _)|some .string=>true
 | some (.slice e)=>Nat.ble 1 (P.cellsOf e) && Nat.ble 1 (P.bytesOf e) && S.contains e
 | some (.struct fs)=>tiles P fs.toList 0 (P.cellsOf t) && fs.toList.all fun f=>S.contains f.type
 | some (.array k e)=>Nat.beq (k * P.cellsOf e) (P.cellsOf t) && S.contains e
 | _=>false
def plainS (P:Program) (S:List TypeId):Bool:=S.all (okAt P S)
def Light {H:Type} (P:Program) (t:TypeId) (d:DataW H):Prop:=(d.weights P t).all (·≤reachBytes)=true
theorem light_all {H:Type} {P:Program} {e:TypeId}:∀ {ds:List (DataW H)},(DataW.weightsAll P e ds).all (·≤reachBytes)=true->∀ d ∈ ds,Light P e d
 | [],_,d,h=>by cases h
 | x :: ds,h,d,hd=>by
  rw[DataW.weightsAll,List.all_append,Bool.and_eq_true]at h
  rcases List.mem_cons.mp hd with q|q
  . subst q;exact h.1
  . exact light_all h.2 d q
theorem light_each {H:Type} {P:Program}:∀ {ts:List TypeId} {ds:List (DataW H)},(DataW.weightsEach P ts ds).all (·≤reachBytes)=true->∀ (i:Nat) t d,ts[i]? = some t->ds[i]? = some d->Light P t d
 | [],_,_,i,t,d,h,_=>by simp at h
 | _ :: _,[],_,i,t,d,_,h=>by simp at h
 | t0 :: ts,d0 :: ds,h,i,t,d,ht,hd=>by
  rw[DataW.weightsEach,List.all_append,Bool.and_eq_true]at h
  cases i with
  | zero=>simp at ht hd;subst ht hd;exact h.1
  | succ i=>exact light_each h.2 i t d (by simpa using ht) (by simpa using hd)
theorem light_slice {H:Type} {P:Program} {t e:TypeId} {es sp:List (DataW H)} (hU:P.underlying t=some (.slice e)) (h:Light P t (.slice es sp)):(es.length+sp.length) * P.bytesOf e≤reachBytes/\∀ d ∈ es,Light P e d:=by
 simp only[Light,DataW.weights,hU,List.all_cons,List.all_append,Bool.and_eq_true,decide_eq_true_eq]at h
 exact⟨h.1,light_all h.2.1⟩
theorem light_struct {H:Type} {P:Program} {t:TypeId} {fs:Array Field} {ds:List (DataW H)} (hU:P.underlying t=some (.struct fs)) (h:Light P t (.agg ds)):∀ (i:Nat) f d,fs[i]? = some f->ds[i]? = some d->Light P f.type d:=by
 simp only[Light,DataW.weights,hU]at h
 intro i f d hf hd
 exact light_each h i f.type d (by rw[List.getElem?_map];simp[hf]) hd
theorem light_array {H:Type} {P:Program} {t e:TypeId} {k:Nat} {ds:List (DataW H)} (hU:P.underlying t=some (.array k e)) (h:Light P t (.agg ds)):∀ d ∈ ds,Light P e d:=by
 simp only[Light,DataW.weights,hU]at h
 exact light_all h
theorem light_string {H:Type} {P:Program} {t:TypeId} {s:List UInt8} (h:Light (H:=H) P t (.lit (.string s))):s.length≤reachBytes:=by
 simpa [Light,DataW.weights] using h
section
variable {H:Type} {enc:TypeId × Value->H} {P:Program} {W:World} {N:Nat} {S:List TypeId}
theorem trod_array {base:Nat} {spare:Nat->Bool} {held:Bool} {fuel:Nat} {t e:TypeId} {k:Nat} {cs:List Value} {x:DataW H × List MemPlace} (ht:P.underlying t=some (.array k e)) (h:DataW.trod enc P W base spare held fuel t cs=some x) :
    ∃ (n:Nat),fuel=n+1/\cs.length=P.cellsOf t/\∃ xs:List (DataW H × List MemPlace),x.1=.agg (xs.map (·.1))/\∀ i,i < k->∃ y,y ∈ xs/\DataW.trod enc P W base spare held n e ((cs.drop (i * P.cellsOf e)).take (P.cellsOf e))=some y:=by
 cases fuel with
 | zero=>simp[DataW.trod]at h
 | succ n =>
  unfold DataW.trod at h
  rw[ht]at h
  split at h <;> (try (simp at *;done))
  rename_i n' e' heq
  simp only[Option.some.injEq,TypeDesc.array.injEq]at heq
  obtain⟨rfl,rfl⟩:=heq
  split at h
  case isFalse=>cases h
  rename_i hl
  obtain⟨xs,hp,hd⟩:=Option.map_eq_some_iff.mp h
  refine⟨n,rfl,hl,xs,by rw[<- hd],fun i hi=>?_⟩
  have hx:xs.length=k:=by simpa using mapM_some_length hp
  have:=mapM_some_get hp i i (by simp[hi])
  exact⟨xs[i],List.getElem_mem _,by rw[this];simp⟩
structure Got (N:Nat) (W:World) (σ:Emb) (w:AW) (σ':Emb) (w':AW):Prop where
 le:σ.le σ'
 keep:Keep w.next w w'
 fresh:Fresh w'
 rel:WRel N σ' w' W
theorem Got.trans {σ σ' σ'':Emb} {w w' w'':AW} (h:Got N W σ w σ' w') (k:Got N W σ' w' σ'' w''):Got N W σ w σ'' w'' :=
 ⟨h.le.trans k.le,h.keep.trans (k.keep.mono h.keep.next),k.fresh,k.rel⟩
abbrev Tr (H:Type) (enc:TypeId × Value->H) (P:Program) (W:World) (fuel:Nat) (t:TypeId) (cs:List Value):Prop:=∃ x,DataW.trod (H:=H) enc P W 0 (fun _=>true) true fuel t cs=some x/\Light P t x.1
def Abs (H:Type) (enc:TypeId × Value->H) (P:Program) (W:World) (S:List TypeId) (N fuel:Nat):Prop :=
 ∀ t cs,Tr H enc P W fuel t cs->S.contains t=true->∀ σ w,WRel N σ w W->Fresh w->∃ σ' w' cs',Got N W σ w σ' w'/\LRel σ' cs' cs/\Hd P w' fuel t cs'
theorem all_abs {fuel:Nat} (ih:Abs H enc P W S N fuel):∀ (l:List (TypeId × List Value)),(∀ p ∈ l,Tr H enc P W fuel p.1 p.2/\S.contains p.1=true)->∀ σ w,WRel N σ w W->Fresh w ->
    ∃ (σ':Emb) (w':AW) (l':List (List Value)),Got N W σ w σ' w'/\l'.length=l.length/\∀ (i:Nat) (p:TypeId × List Value) (c:List Value),l[i]? = some p->l'[i]? = some c->LRel σ' c p.2/\Hd P w' fuel p.1 c
 | [],_,σ,w,hw,hf=>⟨σ,w,[],⟨.refl σ,.refl _ _,hf,hw⟩,rfl,fun i p c h=>by simp at h⟩
 | p :: l,h,σ,w,hw,hf=>by
  obtain⟨σ1,w1,c,g1,r1,h1⟩:=ih p.1 p.2 (h p List.mem_cons_self).1 (h p List.mem_cons_self).2 σ w hw hf
  obtain⟨σ2,w2,l',g2,e2,h2⟩:=all_abs ih l (fun q hq=>h q (List.mem_cons_of_mem _ hq)) σ1 w1 g1.rel g1.fresh
  refine⟨σ2,w2,c :: l',g1.trans g2,by simp[e2],fun i q d hi hd=>?_⟩
  cases i with
  | zero =>
   simp only[List.getElem?_cons_zero,Option.some.injEq]at hi hd
   subst hi hd
   exact⟨r1.mono g2.le,h1.keep g2.keep⟩
  | succ i =>
   simp only[List.getElem?_cons_succ]at hi hd
   exact h2 i q d hi hd
theorem LRel.flat {σ:Emb}:∀ {a b:List (List Value)},a.length=b.length->(∀ (i:Nat) x y,a[i]? = some x->b[i]? = some y->LRel σ x y)->LRel σ a.flatten b.flatten
 | [],[],_,_=>.nil
 | x :: a,y :: b,h,k=>by
  simp only[List.flatten_cons]
  exact (k 0 x y (by simp) (by simp)).append (LRel.flat (by simpa using h) fun i u v hu hv=>k (i+1) u v (by simpa using hu) (by simpa using hv))
 | [],_ :: _,h,_=>by simp at h
 | _ :: _,[],h,_=>by simp at h
theorem tiles_flat (P:Program) (cs:List Value):∀ (fs:List Field) (o:Nat),tiles P fs o cs.length=true->o≤cs.length->(fs.map fun f=>(cs.drop f.offset).take (P.cellsOf f.type)).flatten=cs.drop o
 | [],o,h,_=>by
  simp only[tiles]at h
  have:=Nat.eq_of_beq_eq_true h
  simp[this]
 | f :: l,o,h,ho=>by
  simp only[tiles,Bool.and_eq_true]at h
  have h1:=Nat.eq_of_beq_eq_true h.1
  have hle:∀ (l:List Field) (o:Nat),tiles P l o cs.length=true->o≤cs.length:=by
   intro l
   induction l with
   | nil=>intro o h;have:=Nat.eq_of_beq_eq_true h;omega
   | cons f l ih =>
    intro o h
    simp only[tiles,Bool.and_eq_true]at h
    have:=ih _ h.2
    omega
  have h2:=hle _ _ h.2
  simp only[List.map_cons,List.flatten_cons,tiles_flat P cs l _ h.2 h2,h1]
  rw[<- List.drop_drop]
  exact List.take_append_drop _ _
theorem rows_flat (cs:List Value) (z:Nat):∀ (k:Nat),k * z≤cs.length->((List.range k).map fun i=>(cs.drop (i * z)).take z).flatten=cs.take (k * z)
 | 0,_=>by simp
 | k+1,h=>by
  have h':k * z+z≤cs.length:=by rw[Nat.succ_mul]at h;exact h
  rw[List.range_succ,List.map_append,List.flatten_append,rows_flat cs z k (by omega)]
  simp only[List.map_cons,List.map_nil,List.flatten_cons,List.flatten_nil,List.append_nil]
  rw[Nat.succ_mul,List.take_add]
theorem cells_len {W:World} {base n:Nat} {a:Addr} {cs:List Value} (h:W.cells? base a n=some cs):cs.length=n/\∀ i,i < n->W.cell? (a.add i)=cs[i]?:=by
 unfold World.cells? at h
 split at h
 . exact⟨by simpa using mapM_some_length h,fun i hi=>mapM_some_get h i i (by simp[hi])⟩
 . cases h
theorem cell_spot {W:World} {a:Addr} {v:Value} (h:W.cell? a=some v):a.spot=none:=by
 unfold World.cell? at h
 split at h
 · split at h
   . cases h
   . rename_i hs;cases hq:a.spot with
     | none=>rfl
     | some q=>rw[hq]at hs;simp at hs
 . cases h
theorem cell_at {W:World} {c o:Nat} {v:Value} (h:W.cell? ⟨c,o,none⟩=some v):∃ cc ce fr,W.heap[c]? = some (.cells cc ce fr)/\cc[o]? = some v:=by
 unfold World.cell? at h
 simp only at h
 split at h
 . rename_i cc ce fr hq
   exact⟨cc,ce,fr,hq,by simpa using h⟩
 . cases h
theorem abs_ok (hN : N=W.heap.size) (hS:plainS P S=true):∀ fuel,Abs H enc P W S N fuel
 | 0=>fun t cs ⟨x,h,_⟩ _=>by simp[DataW.trod]at h
 | n + 1 => by
  intro t cs hx hp σ w hw hf
  have ih:=abs_ok hN hS n
  obtain⟨x,hx,hlt⟩:=hx
  have same:∀ cs',LRel σ cs' cs->Hd P w (n+1) t cs'->∃ σ' w' cs',Got N W σ w σ' w'/\LRel σ' cs' cs/\Hd P w' (n+1) t cs':=fun cs' r h=>⟨σ,w,cs',⟨.refl σ,.refl _ _,hf,hw⟩,r,h⟩
  have hp:=List.all_eq_true.mp hS t (by simpa using hp)
  simp only[okAt]at hp
  split at hp
  . rename_i hU
    obtain⟨b,rfl,_⟩:=DataW.trod_bool hU hx
    exact same [.bool b] (.cons (.bool _) .nil) (by unfold Hd;simp only[hU];exact⟨b,rfl⟩)
  . rename_i k hU
    obtain⟨i,rfl,_,hi⟩:=DataW.trod_int hU hx
    exact same [.int k i] (.cons (.int _ _) .nil) (by unfold Hd;simp only[hU];exact⟨i,rfl,by simpa [Lit.wf] using hi⟩)
  . rename_i hU
    obtain⟨s,rfl,rfl,hs⟩:=DataW.trod_string hU hx
    exact same [.string s] (.cons (.string _) .nil) (by unfold Hd;simp only[hU];exact⟨s,rfl,by have:=light_string hlt;have e:reachBytes=140737488351232:=rfl;simp at this;omega⟩)
  · rename_i e hU
    simp only[Bool.and_eq_true]at hp
    have hz:1≤P.cellsOf e:=Nat.le_of_ble_eq_true hp.1.1
    have hby:1≤P.bytesOf e:=Nat.le_of_ble_eq_true hp.1.2
    rcases DataW.trod_slice hU hx with ⟨rfl,_⟩|⟨a,len,cap,elems,rest,m,hm,rfl,rfl,_,hlc,hcm,hel,helem,hspare,_⟩
    . refine same [.slice none 0 0] (.cons .sliceNil .nil) ?_
      unfold Hd;simp only[hU]
      exact⟨_,[],rfl,⟨none,0,0,rfl,rfl,Nat.le_refl _,by omega,fun h=>by omega⟩,(fun r hr=>by cases hr),(fun b o s n c e hn=>by cases e),(fun p n c e=>by injection e with _ _ e3;rw[<- e3,Nat.zero_mul];omega),(fun n c e=>by injection e with _ e2 e3;omega),fun b o s n c e=>by cases e⟩
    · obtain rfl : n=m:=by omega
      have hspare:=hspare rfl
      obtain⟨hwt,hli⟩:=light_slice hU hlt
      have hcapB:cap≤140737488351232:=by
       have e:reachBytes=140737488351232:=rfl
       rw[List.length_map,List.length_map,hel,hspare.1,e]at hwt
       have:=Nat.mul_le_mul (Nat.le_refl (len+(cap - len))) hby
       omega
      have hcapW:cap * P.bytesOf e≤140737488351232:=by
       have e':reachBytes=140737488351232:=rfl
       rw[List.length_map,List.length_map,hel,hspare.1,e']at hwt
       rw[show cap=len+(cap - len) by omega];exact hwt
      have helem':∀ i,i < len->∃ cs',W.cells? 0 (a.add (i * P.cellsOf e)) (P.cellsOf e)=some cs'/\Tr H enc P W n e cs':=by
       intro i hi
       have h1:=helem i hi
       rw[show elems[i]? = some elems[i]from by simp]at h1
       obtain⟨cs',h2,h3⟩:=Option.bind_eq_some_iff.mp h1
       exact⟨cs',h2,_,h3,hli _ (List.mem_map.mpr ⟨elems[i],List.getElem_mem _,rfl⟩)⟩
      by_cases hc0:cap=0
      · -- nothing is read
        obtain rfl:len=0:=by omega
        subst hc0
        have mk:∀ σ' w',Got N W σ w σ' w'->VRel σ' (.slice (some ⟨0,0,some 0⟩) 0 0) (.slice (some a) 0 0)->∃ σ' w' cs',Got N W σ w σ' w'/\LRel σ' cs' [.slice (some a) 0 0]/\Hd P w' (n+1) t cs':=by
         intro σ' w' g r
         refine⟨σ',w',[.slice (some ⟨0,0,some 0⟩) 0 0],g,.cons r .nil,?_⟩
         unfold Hd;simp only[hU]
         refine⟨_,[],rfl,⟨_,0,0,rfl,rfl,Nat.le_refl _,by omega,fun h=>by omega⟩,(fun r hr=>by cases hr),(fun b o s n c e hn=>by injection e with e1 e2 e3;omega),(fun p n c e=>by injection e with _ _ e3;rw[<- e3,Nat.zero_mul];omega),(fun n c e=>by cases e),fun b o s n c e=>?_⟩
         injection e with e1 e2 e3
         injection e1 with e1
         injection e1 with e1 e4 e5
         exact⟨fun q=>by omega,fun _=>⟨e1.symm,e4.symm,e5.symm⟩⟩
        exact mk σ w ⟨.refl σ,.refl _ _,hf,hw⟩ (.odd a)
      · -- the address is a cell's
        have hspot:a.spot=none/\a.block < N:=by
         have first:∃ cs',W.cells? 0 (a.add (0 * P.cellsOf e)) (P.cellsOf e)=some cs':=by
          by_cases hl0:0 < len
          . obtain⟨cs',h1,_⟩:=helem' 0 hl0
            exact⟨cs',h1⟩
          . obtain rfl:len=0:=by omega
            have h1:=hspare.2 0 (by omega)
            rw[show rest[0]? = some (rest[0]'(by rw[hspare.1];omega))from by simp]at h1
            obtain⟨cs',h2,_⟩:=Option.bind_eq_some_iff.mp h1
            exact⟨cs',by simpa using h2⟩
         obtain⟨cs',h1⟩:=first
         obtain⟨hl,hc⟩:=cells_len h1
         have h2:=hc 0 (by omega)
         rw[show cs'[0]? = some (cs'[0]'(by omega))from by simp]at h2
         simp only[Nat.zero_mul,Addr.add,if_true]at h2
         exact ⟨cell_spot h2,by
          obtain⟨ab,ao,sp⟩:=a
          have hs:sp=none:=cell_spot h2
          subst hs
          obtain⟨cc,ce,fr,q,_⟩:=cell_at h2
          rw[hN]
          rcases Nat.lt_or_ge ab W.heap.size with q'|q'
          . exact q'
          . rw[Array.getElem?_eq_none q']at q;cases q⟩
        obtain⟨ab,ao,sp⟩:=a
        obtain⟨hs,hblk⟩:=hspot
        simp only at hs hblk
        subst hs
        have choose:∃ l:List (List Value),l.length=len/\∀ (i:Nat) c,l[i]? = some c->W.cells? 0 ((⟨ab,ao,none⟩:Addr).add (i * P.cellsOf e)) (P.cellsOf e)=some c/\Tr H enc P W n e c:=by
         have go : ∀ k,k≤len->∃ l:List (List Value),l.length=k/\∀ (i:Nat) c,l[i]? = some c->W.cells? 0 ((⟨ab,ao,none⟩:Addr).add (i * P.cellsOf e)) (P.cellsOf e)=some c/\Tr H enc P W n e c:=by
          intro k
          induction k with
          | zero=>intro _;exact⟨[],rfl,fun i c h=>by simp at h⟩
          | succ k ihk =>
           intro hk
           obtain⟨l,hl,hc⟩:=ihk (by omega)
           obtain⟨c0,h1,h2⟩:=helem' k (by omega)
           refine⟨l++[c0],by simp[hl],fun i c hi=>?_⟩
           rw[List.getElem?_append]at hi
           split at hi
           . exact hc i c hi
           · rename_i hge
             have:i=k:=by
              rcases Nat.lt_or_ge (i - l.length) 1 with q|q
              . omega
              . rw[List.getElem?_eq_none (by simpa using q)]at hi;cases hi
             subst this
             simp only[hl,Nat.sub_self,List.getElem?_cons_zero,Option.some.injEq]at hi
             subst hi
             exact⟨h1,h2⟩
         exact go len (Nat.le_refl _)
        obtain⟨l,hll,hlc'⟩:=choose
        obtain ⟨σ1,w1,rows,g1,e1,h1⟩:=all_abs ih (l.map fun c=>(e,c)) (fun p hp'=>by
         obtain⟨c,hc,rfl⟩:=List.mem_map.mp hp'
         obtain⟨i,hi⟩:=List.getElem?_of_mem hc
         exact⟨(hlc' i c hi).2,hp.2⟩) σ w hw hf
        have hrl:rows.length=len:=by rw[e1];simp[hll]
        have hrow:∀ (i:Nat) r,rows[i]? = some r->∃ c,l[i]? = some c/\LRel σ1 r c/\Hd P w1 n e r:=by
         intro i r hr
         have hil:i < rows.length:=by
          rcases Nat.lt_or_ge i rows.length with q|q
          . exact q
          . rw[List.getElem?_eq_none q]at hr;cases hr
         have hc:l[i]? = some (l[i]'(by omega)):=by simp
         obtain⟨a1,a2⟩:=h1 i (e,l[i]'(by omega)) r (by simp[hc]) hr
         exact⟨_,hc,a1,a2⟩
        have hlen:∀ (i:Nat) r,rows[i]? = some r->r.length=P.cellsOf e:=by
         intro i r hr
         obtain⟨c,hc,r1,_⟩:=hrow i r hr
         rw[r1.length];exact (cells_len (hlc' i c hc).1).1
        have flatget:∀ (rows:List (List Value)),(∀ (i:Nat) r,rows[i]? = some r->r.length=P.cellsOf e)->∀ (o:Nat) v,rows.flatten[o]? = some v↔∃ i j r,o=i * P.cellsOf e+j/\j < P.cellsOf e/\rows[i]? = some r/\r[j]? = some v:=by
         intro rows
         induction rows with
         | nil=>intro _ o v;simp
         | cons r0 rows ihr =>
          intro hr o v
          have h0:r0.length=P.cellsOf e:=hr 0 r0 (by simp)
          rw[List.flatten_cons,List.getElem?_append]
          by_cases q:o < r0.length
          · rw [if_pos q]
            constructor
            . intro hv;exact⟨0,o,r0,by simp,by omega,by simp,hv⟩
            . rintro ⟨i,j,r,ho,hj,hi,hv⟩
              cases i with
              | zero=>simp only[Nat.zero_mul,Nat.zero_add]at ho;subst ho;simp at hi;subst hi;exact hv
              | succ i=>rw[Nat.succ_mul]at ho;omega
          · rw [if_neg q,ihr (fun i r hi=>hr (i+1) r (by simpa using hi))]
            constructor
            . rintro ⟨i,j,r,ho,hj,hi,hv⟩
              exact⟨i+1,j,r,by rw[Nat.succ_mul];omega,hj,by simpa using hi,hv⟩
            . rintro ⟨i,j,r,ho,hj,hi,hv⟩
              cases i with
              | zero=>omega
              | succ i=>rw[Nat.succ_mul]at ho;exact⟨i,j,r,by omega,hj,by simpa using hi,hv⟩
        have flatget:=flatget rows hlen
        have real:∀ o v,rows.flatten[o]? = some v->∃ v',W.cell? ⟨ab,ao+o,none⟩=some v'/\VRel σ1 v v':=by
         intro o v hv
         obtain⟨i,j,r,ho,hj,hi,hv⟩:=(flatget o v).1 hv
         obtain⟨c,hc,r1,_⟩:=hrow i r hi
         obtain⟨v',hv',rv⟩:=r1.getSome hv
         obtain⟨hcl,hcc⟩:=cells_len (hlc' i c hc).1
         refine⟨v',?_,rv⟩
         rw[<- hv',<- hcc j hj]
         have:((⟨ab,ao,none⟩:Addr).add (i * P.cellsOf e)).add j=⟨ab,ao+o,none⟩:=by
          unfold Addr.add
          split <;> split <;> simp <;> omega
         rw[this]
        refine⟨_,_,[.slice (some ⟨w1.next,0,none⟩) len cap],g1.trans ⟨Emb.le_with g1.rel.fresh ⟨ab,ao,0,0⟩,(Keep.refl _ _).push (Nat.le_refl _) _,g1.fresh.push (.given rows.flatten),g1.rel.give rows.flatten ⟨ab,ao,0,0⟩ rfl (.inr hblk) fun o v ho _=>?_⟩,.cons ?_ .nil,?_⟩
        . obtain⟨v',hv',rv⟩:=real o v ho
          obtain⟨cc,ce,fr,q1,q2⟩:=cell_at hv'
          exact⟨cc,ce,fr,v',q1,q2,rv⟩
        . have:=VRel.slice (σ:=σ1.with w1.next ⟨ab,ao,0,0⟩) (b:=w1.next) (o:=0) (n:=len) (k:=cap) (k':=cap) (Emb.with_self _ _ _) (Nat.le_refl _) (.inl rfl)
          simpa using this
        · unfold Hd;simp only[hU]
          refine⟨_,rows,rfl,⟨_,len,cap,rfl,hrl,hlc,by omega,fun _=>⟨w1.next,0,rfl,by rw[AW.next_push];omega,fun i j r x hi hx=>?_⟩⟩,fun r hr=>?_,(fun b o s n c e hn=>?_),(fun p n c e=>by injection e with _ _ e3;rw[<- e3];exact hcapW),(fun n c e=>by cases e),fun b o s n c e=>?_⟩
          · have hj:j < P.cellsOf e:=by
              rw[<- hlen i r hi]
              rcases Nat.lt_or_ge j r.length with q|q
              . exact q
              . rw[List.getElem?_eq_none q]at hx;cases hx
            have hfl:=(flatget (i * P.cellsOf e+j) x).2 ⟨i,j,r,rfl,hj,hi,hx⟩
            obtain⟨c,hc,r1,h2⟩:=hrow i r hi
            have one:oneCell x=true:=h2.one x (List.mem_of_getElem? hx)
            simp only[AW.cell?,blk_push_top,Nat.zero_add,getL_eq,hfl,one]
          . obtain⟨i,hi⟩:=List.getElem?_of_mem hr
            obtain⟨c,_,_,h2⟩:=hrow i r hi
            exact h2.keep ((Keep.refl _ _).push (Nat.le_refl _) _)
          . injection e with e1 e2 e3
            injection e1 with e1
            injection e1 with e1 e4 e5
            subst e1
            exact⟨by rw[AW.next_push];omega,_,blk_push_top _ _⟩
          . injection e with e1 e2 e3
            injection e1 with e1
            injection e1 with e1 e4 e5
            subst e1
            exact⟨fun _=>⟨e5.symm,by rw[AW.next_push];omega,_,blk_push_top _ _⟩,fun q=>by omega⟩
  · rename_i fs hU
    simp only[Bool.and_eq_true]at hp
    obtain⟨xs,m,hm,rfl,hcl,hxl,hxs⟩:=DataW.trod_struct hU hx
    obtain rfl:n=m:=by omega
    obtain ⟨σ1,w1,parts,g1,e1,h1⟩:=all_abs ih (fs.toList.map fun f=>(f.type,(cs.drop f.offset).take (P.cellsOf f.type))) (fun p hp'=>by
     obtain⟨f,hf',rfl⟩:=List.mem_map.mp hp'
     obtain⟨i,hi⟩:=List.getElem?_of_mem hf'
     have hi':fs[i]? = some f:=by simpa using hi
     have h2:=hxs i f hi'
     have hil:i < xs.length:=by
      rw[hxl]
      rcases Nat.lt_or_ge i fs.size with q|q
      . exact q
      . rw[Array.getElem?_eq_none q]at hi';cases hi'
     rw[show xs[i]? = some xs[i]from by simp]at h2
     exact⟨⟨_,h2,light_struct hU hlt i f _ hi' (by rw[List.getElem?_map,show xs[i]? = some xs[i]from by simp];rfl)⟩,List.all_eq_true.mp hp.2 f hf'⟩) σ w hw hf
    refine⟨σ1,w1,parts.flatten,g1,?_,?_⟩
    . have hflat:=tiles_flat P cs fs.toList 0 (by rw[hcl];exact hp.1) (Nat.zero_le _)
      rw[List.drop_zero]at hflat
      rw[<- hflat]
      refine LRel.flat (by rw[e1];simp) fun i x y hx' hy=>?_
      rw[List.getElem?_map]at hy
      obtain⟨f,hf',rfl⟩:=Option.map_eq_some_iff.mp hy
      exact (h1 i _ x (by rw[List.getElem?_map,hf'];rfl) hx').1
    . unfold Hd;simp only[hU]
      refine⟨parts,rfl,by rw[e1];simp,fun i f p hi hp'=>?_⟩
      exact (h1 i (f.type,(cs.drop f.offset).take (P.cellsOf f.type)) p (by rw[List.getElem?_map];simp[hi]) hp').2
  · rename_i k e hU
    simp only[Bool.and_eq_true]at hp
    obtain⟨m,hm,hcl,xs,hxe,hxs⟩:=trod_array hU hx
    obtain rfl:n=m:=by omega
    have hk:=Nat.eq_of_beq_eq_true hp.1
    obtain ⟨σ1,w1,parts,g1,e1,h1⟩:=all_abs ih ((List.range k).map fun i=>(e,(cs.drop (i * P.cellsOf e)).take (P.cellsOf e))) (fun p hp'=>by
     obtain⟨i,hi,rfl⟩:=List.mem_map.mp hp'
     obtain⟨y,hy,hq⟩:=hxs i (by simpa using hi)
     rw[hxe]at hlt
     exact⟨⟨y,hq,light_array hU hlt _ (List.mem_map.mpr ⟨y,hy,rfl⟩)⟩,hp.2⟩) σ w hw hf
    refine⟨σ1,w1,parts.flatten,g1,?_,?_⟩
    . have hflat:=rows_flat cs (P.cellsOf e) k (by omega)
      rw[List.take_of_length_le (by omega)]at hflat
      rw[<- hflat]
      refine LRel.flat (by rw[e1];simp) fun i x y hx' hy=>?_
      rw[List.getElem?_map]at hy
      obtain⟨f,hf',rfl⟩:=Option.map_eq_some_iff.mp hy
      exact (h1 i _ x (by rw[List.getElem?_map,hf'];rfl) hx').1
    · unfold Hd;simp only[hU]
      refine⟨parts,rfl,by rw[e1];simp,fun p hp'=>?_⟩
      obtain⟨i,hi⟩:=List.getElem?_of_mem hp'
      have hil:i < k:=by
       rcases Nat.lt_or_ge i parts.length with q|q
       . rw[e1]at q;simpa using q
       . rw[List.getElem?_eq_none q]at hi;cases hi
      exact (h1 i (e,(cs.drop (i * P.cellsOf e)).take (P.cellsOf e)) p (by rw[List.getElem?_map];simp[hil]) hi).2
  . cases hp
end
end Go.Sim

namespace Go.Sim
open Go Go.RowKit
theorem calls_open {P:Program} (hP:Fit P) (hfol:P.follows .mixedOrders=true) {told:ToldF} (ht:∀ N,ToldOk P N told) {f:FuncId} {W:World} {σ:Emb} {w:AW} {xs args:Array Value} (hno:told f (xs++#[]) w=none)
    (h:CallT P told (.fn (.func f) #[]) xs w fun v _=>v=.bool true) (hw:WRel W.heap.size σ w W) (ha:ARel σ xs args) :
    Calls P f args W fun e W'=>e=.returned (.bool true)/\Below W.heap.size W W':=by
 obtain⟨N,v,w1,hh,rfl⟩:=h
 have h1:=hh N (N+1) (Nat.le_refl _) (by omega)
 have hno':told f xs w=none:=by simpa using hno
 simp only[acall,Array.append_empty,hno']at h1
 intro cs
 obtain⟨σ',v',W',fr,s,hf,hl,e,r⟩:=enter_leaves hP hfol (call_ok hP hfol (ht W.heap.size) N) (call_pan hP hfol (ht W.heap.size) N) h1 cs hw ha
 cases r
 exact⟨.returned (.bool true),W',fr,⟨rfl,e.below.toBelow⟩,s,hf,hl⟩
def HdV (P:Program) (w:AW) (n:Nat) (t:TypeId) (v:Value):Prop :=
 match P.underlying t with
 | some (.struct _)|some (.array _ _)=>∃ cs,v=.agg cs/\Hd P w n t cs.toList
 | _=>Hd P w n t [v]
inductive HdAll (P:Program) (w:AW):List TypeId->List Value->Prop where
 | nil:HdAll P w [] []
 | cons {t:TypeId} {v:Value} {ts:List TypeId} {vs:List Value} (n:Nat) (h:HdV P w n t v) (k:HdAll P w ts vs):HdAll P w (t :: ts) (v :: vs)
theorem HdV.keep {P:Program} {w w':AW} (k:Keep w.next w w') {n:Nat} {t:TypeId} {v:Value} (h:HdV P w n t v):HdV P w' n t v:=by
 unfold HdV at h ⊢
 split at h
 . obtain⟨cs,a,b⟩:=h;exact⟨cs,a,b.keep k⟩
 . obtain⟨cs,a,b⟩:=h;exact⟨cs,a,b.keep k⟩
 . exact h.keep k
section
variable {H:Type} {enc:TypeId × Value->H} {P:Program} {W:World} {S:List TypeId}
theorem arg_abs {N:Nat} (hN:N=W.heap.size) (hS:plainS P S=true) {r:Go.Reach} {base:Nat} {t:TypeId} {v:Value} {d:DataW H} {ps:List MemPlace} (hok:Value.okWide P W r base t v) (h:DataW.Trod enc P W 0 (fun _=>true) true t v d ps) (hlt:Light P t d)
    (ht:S.contains t=true) {σ:Emb} {w:AW} (hw:WRel N σ w W) (hf:Fresh w):∃ σ' w' v' n,Got N W σ w σ' w'/\VRel σ' v' v/\HdV P w' n t v':=by
 obtain⟨fuel,h⟩:=h
 obtain⟨σ',w',cs',g,rl,hd⟩:=abs_ok hN hS fuel t v.cells.toList ⟨_,h,hlt⟩ ht σ w hw hf
 have agg:∀ cs:Array Value,v=.agg cs->(match P.underlying t with|some (.struct _)|some (.array _ _)=>True|_=>False)->∃ σ' w' v' n,Got N W σ w σ' w'/\VRel σ' v' v/\HdV P w' n t v':=by
  intro cs e hu
  subst e
  refine⟨σ',w',.agg cs'.toArray,fuel,g,VRel.agg_of (ARel.iff.2 (by simpa [Value.cells] using rl)),?_⟩
  unfold HdV
  split
  . exact⟨_,rfl,by simpa using hd⟩
  . exact⟨_,rfl,by simpa using hd⟩
  . rename_i h1 h2
    split at hu
    . rename_i q;exact absurd q (h1 _)
    . rename_i q;exact absurd q (h2 _ _)
    . exact hu.elim
 unfold Value.okWide at hok
 split at hok
 . rename_i fs hU
   obtain⟨cs,e,_⟩:=hok
   exact agg cs e (by rw[hU];trivial)
 . rename_i k e0 hU
   obtain⟨cs,e,_⟩:=hok
   exact agg cs e (by rw[hU];trivial)
 · rename_i h1 h2
   have hv:∃ u,cs'=[u]/\VRel σ' u v:=by
    have one:∀ l:List Value,Hd P w' fuel t l->∃ u,l=[u]:=by
     intro l hl
     cases fuel with
     | zero=>exact hl.elim
     | succ n =>
      unfold Hd at hl
      split at hl
      . obtain⟨b,e⟩:=hl;exact⟨_,e⟩
      . obtain⟨b,e,_⟩:=hl;exact⟨_,e⟩
      . obtain⟨b,e,_⟩:=hl;exact⟨_,e⟩
      . obtain⟨b,_,e,_⟩:=hl;exact⟨_,e⟩
      . rename_i q;exact absurd q (h1 _)
      . rename_i q;exact absurd q (h2 _ _)
      . exact hl.elim
    obtain⟨u,rfl⟩:=one cs' hd
    have hone:=hd.one u (by simp)
    generalize hc:v.cells.toList=l at rl
    cases rl with
    | cons rv tl =>
     rename_i x m
     cases tl
     have:oneCell x=true:=by rw[<- rv.oneCell];exact hone
     cases v with
     | agg cs =>
      exfalso
      have hcell:Cell.okWide P W r base t (.agg cs):=hok
      unfold Cell.okWide Cell.ok at hcell
      split at hcell <;> (try (split at hcell)) <;> simp_all
     | _ =>
      simp only[Value.cells,List.cons.injEq,and_true]at hc
      subst hc
      exact⟨u,rfl,rv⟩
   obtain⟨u,rfl,rv⟩:=hv
   refine⟨σ',w',u,fuel,g,rv,?_⟩
   unfold HdV
   split
   . rename_i q;exact absurd q (h1 _)
   . rename_i q;exact absurd q (h2 _ _)
   . exact hd
theorem args_abs {N:Nat} (hN:N=W.heap.size) (hS:plainS P S=true) {r:Go.Reach} {base:Nat}:∀ {ts:List TypeId} {vs:List Value} {ds:List (DataW H)} {ps:List MemPlace},
    (∀ (j:Nat) t v,ts[j]? = some t->vs[j]? = some v->Value.okWide P W r base t v)->DataW.TrodAll enc P W 0 (fun _=>true) true ts vs ds ps->(∀ (i:Nat) t d,ts[i]? = some t->ds[i]? = some d->Light P t d)->(∀ t ∈ ts,S.contains t=true)->∀ {σ:Emb} {w:AW},WRel N σ w W->Fresh w ->
    ∃ σ' w' vs',Got N W σ w σ' w'/\LRel σ' vs' vs/\HdAll P w' ts vs'
 | [],[],[],ps,_,_,_,_,σ,w,hw,hf=>⟨σ,w,[],⟨.refl σ,.refl _ _,hf,hw⟩,.nil,.nil⟩
 | t :: ts,v :: vs,d :: ds,ps,hok,h,hli,hts,σ,w,hw,hf=>by
  obtain⟨p,q,h1,h2,_⟩:=h
  obtain⟨σ1,w1,v',n,g1,r1,k1⟩:=arg_abs hN hS (hok 0 t v rfl rfl) h1 (hli 0 t d rfl rfl) (hts t List.mem_cons_self) hw hf
  obtain⟨σ2,w2,vs',g2,r2,k2⟩:=args_abs hN hS (fun j t v ht hv=>hok (j+1) t v (by simpa using ht) (by simpa using hv)) h2 (fun i t d ht hd=>hli (i+1) t d (by simpa using ht) (by simpa using hd)) (fun t ht=>hts t (List.mem_cons_of_mem _ ht)) g1.rel g1.fresh
  exact⟨σ2,w2,v' :: vs',g1.trans g2,.cons (r1.mono g2.le) r2,.cons n (k1.keep g2.keep) k2⟩
 | [],_ :: _,_,_,_,h,_,_,_,_,_,_=>by simp[DataW.TrodAll]at h
 | _ :: _,[],_,_,_,h,_,_,_,_,_,_=>by simp[DataW.TrodAll]at h
 | [],[],_ :: _,_,_,h,_,_,_,_,_,_=>by simp[DataW.TrodAll]at h
 | _ :: _,_ :: _,[],_,_,h,_,_,_,_,_,_=>by simp[DataW.TrodAll]at h
theorem trodAll_below (hl:laidOutB P=true) {W':World} (hb:Below W.heap.size W W'):∀ {ts:List TypeId} {vs:List Value} {ds:List (DataW H)} {ps:List MemPlace},(∀ t ∈ ts,P.readableRec t=true/\t < P.types.size) ->
    DataW.TrodAll enc P W 0 (fun _=>true) true ts vs ds ps->(∀ x ∈ ps,x.block < W.heap.size)->DataW.TrodAll enc P W' 0 (fun b=>decide (b < W.heap.size)) true ts vs ds ps
 | [],[],[],ps,_,h,_=>h
 | t :: ts,v :: vs,d :: ds,ps,hts,h,hlt=>by
  obtain⟨p,q,h1,h2,rfl⟩:=h
  have ht:=hts t List.mem_cons_self
  exact ⟨p,q,Below.trod hl ht.1 ht.2 h1 hb (fun x hx=>hlt x (List.mem_append_left _ hx)),
   trodAll_below hl hb (fun t ht=>hts t (List.mem_cons_of_mem _ ht)) h2 (fun x hx=>hlt x (List.mem_append_right _ hx)),rfl⟩
 | [],_ :: _,_,_,_,h,_=>by simp[DataW.TrodAll]at h
 | _ :: _,[],_,_,_,h,_=>by simp[DataW.TrodAll]at h
 | [],[],_ :: _,_,_,h,_=>by simp[DataW.TrodAll]at h
 | _ :: _,_ :: _,[],_,_,h,_=>by simp[DataW.TrodAll]at h
theorem trodAll_len {ts:List TypeId} {vs:List Value} {ds:List (DataW H)} {ps:List MemPlace} {b:Nat} {sp:Nat->Bool} {hd:Bool} (h:DataW.TrodAll enc P W b sp hd ts vs ds ps):ds.length=ts.length:=by
 induction ts generalizing vs ds ps with
 | nil=>cases vs <;> cases ds <;> simp_all [DataW.TrodAll]
 | cons t ts ih =>
  cases vs with
  | nil=>simp[DataW.TrodAll]at h
  | cons v vs=>cases ds with
   | nil=>simp[DataW.TrodAll]at h
   | cons d ds =>
    obtain⟨p,q,_,h2,_⟩:=h
    simp[ih h2]
theorem law_open (hP:Fit P) (hfol:P.follows .mixedOrders=true) {told:ToldF} (htold:∀ N,ToldOk P N told) (hl:laidOutB P=true) {fn:Func} {f:FuncId} (hno:∀ xs w,told f xs w=none) {s:ChangeSpec} (hvars:s.vars=[]) (hS:plainS P S=true)
    (hps:fn.params.toList.all (fun t=>P.readableRec t && Nat.blt t P.types.size && S.contains t)=true) {tb:TypeId} (hres:fn.resultTypes = #[tb]) (htb:P.underlying tb=some .bool)
    (hspec:∀ ds:List (DataW H),ds.length=fn.params.size->(s.fn H (ds++[])).results=[.lit (.bool true)]/\(s.fn H (ds++[])).args=ds/\(s.fn H (ds++[])).vars=[])
    (law:∀ w xs,Fresh w->HdAll P w fn.params.toList xs->CallT P told (.fn (.func f) #[]) xs.toArray w fun v _=>v=.bool true)
    {base:Nat} {args:Array Value} {ds gs:List (DataW H)} {before:List MemPlace} (hok:∀ (j:Nat) t v,fn.params[j]? = some t->args[j]? = some v->Value.okWide P W .any base t v)
    (hW:DataW.Whole enc P fn.params.toList s.vars false W args.toList ds gs before) (hsz:(DataW.weightsEach P (fn.params.toList++s.plain.varTypes P) (ds++gs)).all (·≤reachBytes)=true) :
    Calls P f args W fun e W'=>∃ v,e=.returned v/\ChangeSpec.post enc P fn s false true false false W args v W':=by
 have hWlt:=hW.lt
 have hW0:=hW
 obtain⟨p,q,hA,hV,rfl,_,_⟩:=hW
 rw[hvars]at hV
 have hq:q=[]/\gs=[]:=by
  cases gs with
  | nil=>exact⟨hV,rfl⟩
  | cons g gs=>simp[DataW.TrodVars]at hV
 obtain⟨rfl,rfl⟩:=hq
 have hall:=List.all_eq_true.mp hps
 have hts:∀ t ∈ fn.params.toList,(P.readableRec t=true/\t < P.types.size)/\S.contains t=true:=fun t ht=>by
  have:=hall t ht
  simp only[Bool.and_eq_true]at this
  exact⟨⟨this.1.1,Nat.blt_eq.mp this.1.2⟩,this.2⟩
 have empty:Fresh AW.empty:=⟨fun b _=>by simp[AW.empty,AW.blk,Trie.get_leaf],fun r _=>by simp[AW.empty,AW.family,Trie.get_leaf]⟩
 obtain⟨σ,w,xs,g,rl,hd⟩:=args_abs rfl hS (fun j t v ht hv=>hok j t v (by simpa using ht) (by simpa using hv)) hA (fun i t d ht hd=>light_each hsz i t d (by rw[List.getElem?_append_left];exact ht;exact (List.getElem?_eq_some_iff.mp ht).1) (by rw[List.append_nil];exact hd)) (fun t ht=>(hts t ht).2) (WRel.empty W) empty
 have call:=law w xs g.fresh hd
 refine (calls_open hP hfol htold (by exact hno _ _) call g.rel (ARel.iff.2 (by simpa using rl))).mono ?_
 rintro e W' ⟨rfl,hb⟩
 obtain⟨s1,s2,s3⟩:=hspec ds (by rw[trodAll_len hA];simp)
 refine⟨_,rfl,ds,[],p++[],[],p,[],hW0,?_,?_,?_,hb.frame _,fun h=>by cases h⟩
 . rw[s1,hres]
   exact⟨[],[],shut_bool htb true,rfl,rfl⟩
 . rw[s2]
   exact trodAll_below hl hb (fun t ht=>(hts t ht).1) hA fun x hx=>hWlt x (by simpa using hx)
 . rw[s3,hvars];rfl
end
end Go.Sim

namespace Go.Sim
open Go Go.RowKit
variable {P:Program} {told:ToldF}
structure Own (w:AW) (b:Nat) (e:TypeId) (cells:List Value):Prop where
 blk:w.blk b=some (.cells cells e b 0 0)
 fam:w.family b=[]
 lt:b < w.next
theorem Own.push {w:AW} {b:Nat} {e:TypeId} {c:List Value} (h:Own w b e c) (k:Blk):Own (w.push k) b e c :=
 ⟨by rw[blk_push_ne h.lt];exact h.blk,by rw[AW.family_push];exact h.fam,by rw[AW.next_push];have:=h.lt;omega⟩
theorem Own.keep {w w':AW} {b:Nat} {e:TypeId} {c:List Value} (h:Own w b e c) (k:Keep w.next w w'):Own w' b e c :=
 ⟨by rw[k.blk b h.lt];exact h.blk,by rw[k.fam b h.lt];exact h.fam,by have:=h.lt;have:=k.next;omega⟩
theorem Own.new {w:AW} (f:Fresh w) (e:TypeId) (c:List Value):Own (w.push (.cells c e w.next 0 0)) w.next e c :=
 ⟨blk_push_top _ _,by rw[AW.family_push];exact f.2 _ (Nat.le_refl _),by rw[AW.next_push];omega⟩
theorem Own.cell {w:AW} {b:Nat} {e:TypeId} {c:List Value} (h:Own w b e c) {o:Nat} {v:Value} (hv:c[o]? = some v) (h1:oneCell v=true):w.cell? ⟨b,o,none⟩=some v:=by
 simp only[AW.cell?,h.blk,getL_eq,hv,h1]
theorem put_put (w:AW) (b:Nat) (k k':Blk):(w.put b k).put b k'=w.put b k':=by
 obtain⟨h,f,n⟩:=w
 simp only[AW.put,Trie.set,Trie.setP_setP]
theorem Own.put {w:AW} {b:Nat} {e:TypeId} {c:List Value} (h:Own w b e c) (c':List Value):Own (w.put b (.cells c' e b 0 0)) b e c' :=
 ⟨by rw[AW.blk_put _ _ _ _ (Trie.in_ _) (Trie.in_ _),if_pos rfl],by rw[AW.family_put];exact h.fam,by rw[AW.next_put];exact h.lt⟩
theorem stores_own {b:Nat} {e:TypeId}:∀ (l:List Value) (o:Nat) (w:AW) (c:List Value),Own w b e c->l ≠ []->o+l.length≤c.length->(∀ v ∈ l,oneCell v=true) ->
    aStores b o l w=some (w.put b (.cells (setsL c o l) e b 0 0))
 | [],_,_,_,_,h,_,_=>absurd rfl h
 | v :: l,o,w,c,hw,_,ho,hv=>by
  simp only[List.length_cons]at ho
  obtain⟨u,hu⟩:∃ u,getL c o=some u:=by rw[getL_eq];exact⟨c[o]'(by omega),by simp⟩
  simp only[aStores,store_own hw.blk hw.fam hu (hv v List.mem_cons_self)]
  cases l with
  | nil=>rfl
  | cons x l =>
   rw[stores_own (x :: l) (o+1) _ _ (hw.put _) (by simp) (by simp only[setL_eq,List.length_set];simp at ho ⊢;omega) (fun y hy=>hv y (List.mem_cons_of_mem _ hy)),put_put]
   rfl
theorem storeV_own {w:AW} {b o size:Nat} {e:TypeId} {c l:List Value} (hw:Own w b e c) (h1:l.length=size) (h0:0 < size) (h2:o+size≤c.length) (h3:l.all oneCell=true) :
    storeV w true size (.pointer (some ⟨b,o,none⟩)) (.agg l.toArray)=some (w.put b (.cells (setsL c o l) e b 0 0)):=by
 have hb:Nat.beq l.toArray.size size=true:=by rw[List.size_toArray,h1];exact Nat.beq_refl _
 simp only[storeV,hb]
 exact stores_own l o w c hw (by intro q;subst q;simp at h1;omega) (by omega) fun v hv=>List.all_eq_true.mp h3 v hv
theorem storeV_own1 {w:AW} {b o:Nat} {e:TypeId} {c:List Value} {v:Value} (hw:Own w b e c) (h2:o < c.length) (h3:oneCell v=true) :
    storeV w false 1 (.pointer (some ⟨b,o,none⟩)) v=some (w.put b (.cells (setL c o v) e b 0 0)):=by
 have:(oneCell v && Nat.beq 1 1)=true:=by rw[h3];rfl
 simp only[storeV,this]
 exact store_own hw.blk hw.fam (u:=c[o]) (by rw[getL_eq];simp) h3
theorem flatMap_get {α:Type} {enc:α->List Value} {z:Nat} (hz:∀ x,(enc x).length=z):∀ (L:List α) (i j:Nat) (x:α),L[i]? = some x->j < z->(L.flatMap enc)[i * z+j]? = (enc x)[j]?
 | [],i,j,x,h,_=>by simp at h
 | a :: L,0,j,x,h,hj=>by
  simp only[List.getElem?_cons_zero,Option.some.injEq]at h
  subst h
  simp only[Nat.zero_mul,Nat.zero_add,List.flatMap_cons]
  rw[List.getElem?_append_left (by rw[hz];exact hj)]
 | a :: L,i+1,j,x,h,hj=>by
  simp only[List.getElem?_cons_succ]at h
  simp only[List.flatMap_cons]
  rw[List.getElem?_append_right (by rw[hz,Nat.succ_mul];omega),hz,show (i+1) * z+j - z=i * z+j from by rw[Nat.succ_mul];omega]
  exact flatMap_get hz L i j x h hj
def AOwn (B:Nat) (w:AW) (e:TypeId) (size:Nat) (v:Value) (n:Nat) (cells:List Value):Prop :=
 (v=.slice none 0 0/\n=0/\cells=[]) \/
 ∃ b r,v=.slice (some ⟨b,0,none⟩) n n/\B≤b/\b < w.next/\B≤r/\r < w.next/\w.blk b=some (.cells cells e r 0 size)/\cells.length=n * size/\(∀ x ∈ cells,oneCell x=true) /\
  ∀ j ∈ members (w.family r) r,B≤j/\j < w.next/\∃ c e',w.blk j=some (.cells c e' r 0 size)/\c.length≤n * size
theorem AOwn.keep {B C:Nat} {w w':AW} {e:TypeId} {size n:Nat} {v:Value} {cells:List Value} (h:AOwn B w e size v n cells) (k:Keep C w w') (hC:w.next≤C):AOwn B w' e size v n cells:=by
 rcases h with h|⟨b,r,a1,a2,a3,a4,a5,a6,a7,a9,a8⟩
 . exact .inl h
 . have:=k.next
   refine .inr ⟨b,r,a1,a2,by omega,a4,by omega,by rw[k.blk b (by omega)];exact a6,a7,a9,fun j hj=>?_⟩
   rw[k.fam r (by omega)]at hj
   obtain⟨c1,c2,c,e',c3,c4⟩:=a8 j hj
   exact⟨c1,by omega,c,e',by rw[k.blk j (by omega)];exact c3,c4⟩
theorem strikes_none (me cls:Nat):∀ (l:List Nat) (w:AW),(∀ j ∈ l,∃ c e r z,w.blk j=some (.cells c e r 0 z)/\c.length≤cls)->strikes me cls l w=w
 | [],_,_=>rfl
 | j :: l,w,h=>by
  obtain⟨c,e,r,z,hb,hc⟩:=h j List.mem_cons_self
  have:strike me cls w j=w:=by
   unfold strike
   split
   . rfl
   . simp only[hb]
     have h1:Nat.ble 0 cls=true:=Nat.ble_eq_true_of_le (Nat.zero_le _)
     have h2:getL c (cls - 0)=none:=by rw[getL_eq,Nat.sub_zero];exact List.getElem?_eq_none hc
     simp only[h1,h2]
  rw[strikes,this]
  exact strikes_none me cls l w fun j hj=>h j (List.mem_cons_of_mem _ hj)
theorem struckOver_none (me:Nat) (f:List Nat):∀ (m lo:Nat) (w:AW),(∀ j ∈ f,∃ c e r z,w.blk j=some (.cells c e r 0 z)/\c.length≤lo)->struckOver me f m lo w=w
 | 0,_,_,_=>rfl
 | m+1,lo,w,h=>by
  rw[struckOver,strikes_none me lo f w h]
  exact struckOver_none me f m (lo+1) w fun j hj=>let ⟨c,e,r,z,a,b⟩:=h j hj;⟨c,e,r,z,a,by omega⟩
theorem aCells_of {w:AW} {b:Nat}:∀ (l:List Value) (o:Nat),(∀ (i:Nat) v,l[i]? = some v->w.cell? ⟨b,o+i,none⟩=some v)->aCells w b o l.length=some l
 | [],_,_=>rfl
 | v :: l,o,h=>by
  have h0:=h 0 v rfl
  rw[Nat.add_zero]at h0
  simp only[List.length_cons,aCells,h0]
  rw[aCells_of l (o+1) fun i u hu=>by have:=h (i+1) u (by simpa using hu);rwa [show o+1+i=o+(i+1)from by omega]]
end Go.Sim

namespace Go.Sim
open Go Go.RowKit
theorem callT_code {P:Program} {told:ToldF} {f:FuncId} {captured args:Array Value} {w:AW} {Q:Value->AW->Prop} {fn:Func} {s:SC} (htold:told f (args++captured) w=none) (hf:P.funcs[f]? = some fn) (hlt:Nat.blt f 16777215=true) (hs:fn.body.map sOf=some s)
    (hn:Nat.ble (args++captured).size fn.ntmps=true)
    (h:CodeR P told { fn:=f,round:=none } s (fillFrom 0 (args++captured).toList .leaf) [] w (fun e t ds w'=>Left (P:=P) fn.results.toList e t ds w' Q) .mk):CallT P told (.fn (.func f) captured) args w Q:=by
 obtain⟨c,hc,rfl⟩:=Option.map_eq_some_iff.mp hs
 exact callT_open htold hf hlt hc rfl hn h
variable {g:Prg} {t:Tmps}
def bsQ (e:TypeId) (n size:Nat) (zs:List Value) (l:List (Nat × Value)):Option (List Value × TypeId × (Nat->Value)) :=
 match Instr.fill (fun k=>some (k * size,size)) zs.toArray l with
 | some cells=>some (cells.toList,e,fun b=>.slice (some ⟨b,0,none⟩) n n)
 | none=>none
theorem makes_bs {ty e:TypeId} {n size n1 b1 b2:Nat} {a1 a2:Bool} {d2:TypeDesc} {z1 z2:Value} {zs:List Value} {l:List (Nat × Operand)} (h:g.ty ty=some ⟨a1,.slice e,n1,b1,z1⟩) (h2:g.ty e=some ⟨a2,d2,size,b2,z2⟩) (hb:Nat.ble (n * size) (2 ^ 24)=true)
    (hz:((Array.range (n * size)).map ((if n * size=0 then #[] else z2.cells)[· % (if n * size=0 then #[] else z2.cells).size]!))=zs.toArray) :
    makes g t (.buildSlice ty n ⟨l⟩)=bsQ e n size zs (l.map fun p=>(p.1,ev t p.2)):=by
 simp only[makes,h,h2,hb,hz,bsQ]
 have:((Array.mk l).map (fun (k,x)=>(k,ev t x))).toList=l.map fun p=>(p.1,ev t p.2):=by simp
 rw[this]
 try rfl
def ifC {α:Type} (b:Bool) (x y:Option α):Option α:=match b with|true=>x|false=>y
theorem ifC_true {α:Type} (x y:Option α):ifC true x y=x:=rfl
def bsQ0:=bsQ
theorem bsQ_11 {e:TypeId} {z0 v:Value}:bsQ e 1 1 [z0] [(0,v)]=ifC (oneCell v) (some ([v],e,fun n=>.slice (some ⟨n,0,none⟩) 1 1)) (bsQ0 e 1 1 [z0] [(0,v)]):=by
 cases h:oneCell v with
 | false=>rfl
 | true=>simp[bsQ,Instr.fill,cells_one h,ifC]
theorem bsQ_21 {e:TypeId} {z0 z1 v u:Value}:bsQ e 2 1 [z0,z1] [(0,v),(1,u)]=ifC (oneCell v && oneCell u) (some ([v,u],e,fun n=>.slice (some ⟨n,0,none⟩) 2 2)) (bsQ0 e 2 1 [z0,z1] [(0,v),(1,u)]):=by
 cases h:oneCell v with
 | false=>rfl
 | true =>
  cases k:oneCell u with
  | false=>rfl
  | true=>simp[bsQ,Instr.fill,cells_one h,cells_one k,ifC]
attribute [go_sem] ifC_true bsQ_11 bsQ_21
end Go.Sim

namespace Go.Sim
open Go Go.RowKit
structure Apnd (w w':AW):Prop where
 blk:∀ j,j < w.next->w'.blk j=w.blk j
 own:∀ j c e,j < w.next->w.blk j=some (.cells c e j 0 0)->w.family j=[]->w'.family j=w.family j
 next:w.next≤w'.next
theorem Apnd.trans {a b c:AW} (h:Apnd a b) (k:Apnd b c):Apnd a c :=
 ⟨fun j hj=>(k.blk j (by have:=h.next;omega)).trans (h.blk j hj),fun j x e hj hb hf=>(k.own j x e (by have:=h.next;omega) (by rw[h.blk j hj];exact hb) (by rw[h.own j x e hj hb hf];exact hf)).trans (h.own j x e hj hb hf),Nat.le_trans h.next k.next⟩
theorem Apnd.push (w:AW) (k:Blk):Apnd w (w.push k):=⟨fun _ hj=>blk_push_ne hj _,fun _ _ _ _ _ _=>AW.family_push _ _ _,by rw[AW.next_push];omega⟩
theorem Own.app {w w':AW} {b:Nat} {e:TypeId} {c:List Value} (h:Own w b e c) (k:Apnd w w'):Own w' b e c :=
 ⟨by rw[k.blk b h.lt];exact h.blk,by rw[k.own b c e h.lt h.blk h.fam];exact h.fam,by have:=h.lt;have:=k.next;omega⟩
theorem Apnd.cell {w w':AW} (h:Apnd w w') {b o:Nat} (hb:b < w.next):w'.cell? ⟨b,o,none⟩=w.cell? ⟨b,o,none⟩:=by
 simp only[AW.cell?,h.blk b hb]
theorem Arr.app {w w':AW} {z:Nat} {v:Value} {rows:List (List Value)} (h:Arr w.next w z v rows) (k:Apnd w w'):Arr w'.next w' z v rows:=by
 obtain⟨p,n,cap,a,b,c,c2,d⟩:=h
 exact⟨p,n,cap,a,b,c,c2,fun hn=>let ⟨bb,o,e,f,g⟩:=d hn;⟨bb,o,e,by have:=k.next;omega,fun i j r x hr hx=>by rw[k.cell f];exact g i j r x hr hx⟩⟩
theorem append_own2R {g:Prg} {w:AW} {B:Nat} {ty e:TypeId} {a1 a2:Bool} {n1 b1 size b2:Nat} {d2:TypeDesc} {z1 z2:Value} (h:g.ty ty=some ⟨a1,.slice e,n1,b1,z1⟩) (h2:g.ty e=some ⟨a2,d2,size,b2,z2⟩) (hz:z2.cells.size=size) (hs:1≤size)
    {v:Value} {n:Nat} {cells:List Value} (hv:AOwn B w e size v n cells) (f:Fresh w) (hB:B≤w.next) {x:Value} {m cap:Nat} {p:Option Addr} {new:List Value} (hx:x=.slice p m cap) (hnew:aFirst w size m x=some new) (hlen:new.length=m * size) (h1:∀ y ∈ new,oneCell y=true) (hm:1≤m) (hr1:n+m≤140737488355328) (hr2:(n+m) * b2≤140737488355328) :
    ∃ v' w',append g w ty ty v x=some (v',w')/\AOwn B w' e size v' (n+m) (cells++new)/\Keep B w w'/\Fresh w'/\w.next < w'.next/\Apnd w w':=by
 subst hx
 have cond:(Nat.beq z2.cells.size size && Nat.ble (n+m) room && Nat.ble ((n+m) * b2) room && Nat.ble 1 size && Nat.beq ty ty)=true:=by
  have:room=140737488355328:=rfl
  simp only[Bool.and_eq_true]
  exact⟨⟨⟨⟨by rw[hz];exact Nat.beq_refl _,Nat.ble_eq_true_of_le (by omega)⟩,Nat.ble_eq_true_of_le (by omega)⟩,Nat.ble_eq_true_of_le hs⟩,Nat.beq_refl _⟩
 have hle:∀ k,Nat.ble (k+m) k=false:=fun k=>by
  cases q:Nat.ble (k+m) k with
  | false=>rfl
  | true=>have:=Nat.le_of_ble_eq_true q;omega
 have hfull:w.full=false:=rfl
 rcases hv with ⟨rfl,rfl,rfl⟩|⟨b,r,rfl,q1,q2,q3,q4,q5,q6,q8,q7⟩
 · refine ⟨.slice (some ⟨w.next,0,none⟩) (0+m) (0+m),w.push (.cells ([]++new) e w.next 0 size),?_,.inr ⟨w.next,w.next,rfl,hB,by rw[AW.next_push];omega,hB,by rw[AW.next_push];omega,blk_push_top _ _,by simp[hlen],by simpa using h1,fun j hj=>?_⟩,(Keep.refl _ _).push hB _,f.push _,by rw[AW.next_push];omega,⟨fun j hj=>blk_push_ne hj _,fun j c e' hj hb _=>AW.family_push _ _ _,by rw[AW.next_push];omega⟩⟩
   . have hnil:aFirst w size 0 (.slice none 0 0)=some []:=rfl
     unfold append
     simp only[h,h2,cond,aNew,hnew,hle,hnil,AW.grow,hfull]
   . rw[AW.family_push,f.2 _ (Nat.le_refl _)]at hj
     simp only[members,List.mem_singleton]at hj
     subst hj
     exact⟨hB,by rw[AW.next_push];omega,_,_,blk_push_top _ _,by simp[hlen]⟩
 · have hsz0:Nat.beq size 0=false:=by rw[nbeq];simp;omega
   have hszz:Nat.beq size size=true:=Nat.beq_refl _
   have hold:aFirst w size n (.slice (some ⟨b,0,none⟩) n n)=some cells:=by
    show aCells w b 0 (n * size)=some cells
    rw[<- q6]
    exact aCells_of cells 0 fun i y hy=>by simp only[AW.cell?,q5,Nat.zero_add,getL_eq,hy,q8 y (List.mem_of_getElem? hy)]
   have hstr:struckOver w.next (members (w.family r) r) (m * size) (0+0+n * size) w=w:=struckOver_none _ _ _ _ _ fun j hj=>by
    obtain⟨_,_,c,e',a,b⟩:=q7 j hj
    exact⟨c,e',r,size,a,by omega⟩
   have hbk:∀ j,(w.lay r (members (w.family r) r) (.cells (cells++new) e r (0+0) size)).blk j=if j=w.next then some (.cells (cells++new) e r (0+0) size) else w.blk j:=fun j=>AW.blk_lay _ _ _ _ _ (Trie.in_ _) (Trie.in_ _)
   have hfm:∀ j,(w.lay r (members (w.family r) r) (.cells (cells++new) e r (0+0) size)).family j=if j=r then w.next :: members (w.family r) r else w.family j:=fun j=>AW.family_lay _ _ _ _ _ (Trie.in_ _) (Trie.in_ _)
   refine⟨.slice (some ⟨w.next,0,none⟩) (n+m) (n+m),w.lay r (members (w.family r) r) (.cells (cells++new) e r (0+0) size),?_,.inr ⟨w.next,r,rfl,hB,by rw[AW.next_lay];omega,q3,by rw[AW.next_lay];omega,by rw[hbk,if_pos rfl],by rw[List.length_append,q6,hlen,Nat.add_mul],fun y hy=>?_,fun j hj=>?_⟩,⟨fun i hi=>by rw[hbk,if_neg (by omega)],fun i hi=>by rw[hfm,if_neg (by omega)],by rw[AW.next_lay];omega⟩,⟨fun i hi=>?_,fun i hi=>?_⟩,by rw[AW.next_lay];omega,⟨fun j hj=>by rw[hbk,if_neg (by omega)],fun j c e' hj hb hfam=>?_,by rw[AW.next_lay];omega⟩⟩
   . unfold append
     simp only[h,h2,cond,aNew,hnew,hle,hold,AW.grow,hfull,q5,hsz0,hszz,hstr]
   . rcases List.mem_append.mp hy with q|q
     . exact q8 y q
     . exact h1 y q
   · rw [hfm,if_pos rfl]at hj
     simp only[members]at hj
     rcases List.mem_cons.mp hj with q|q
     . subst q
       exact⟨hB,by rw[AW.next_lay];omega,_,_,by rw[hbk,if_pos rfl],by rw[List.length_append,q6,hlen,Nat.add_mul];omega⟩
     . obtain⟨c1,c2,c,e',c3,c4⟩:=q7 j q
       exact⟨c1,by rw[AW.next_lay];omega,c,e',by rw[hbk,if_neg (by omega)];exact c3,by rw[Nat.add_mul];omega⟩
   . rw[AW.next_lay]at hi
     rw[hbk,if_neg (by omega)];exact f.1 i (by omega)
   . rw[AW.next_lay]at hi
     rw[hfm,if_neg (by omega)];exact f.2 i (by omega)
   · rw [hfm]
     split
     . rename_i hjr
       subst hjr
       obtain⟨_,_,c2,e2,hc2,_⟩:=q7 j (by rw[hfam];simp[members])
       rw[hb]at hc2
       injection hc2 with hc2
       injection hc2 with _ _ _ _ hz0
       omega
     . rfl
theorem append_oneR {g:Prg} {w:AW} {B:Nat} {ty e e':TypeId} {a1 a2:Bool} {n1 b1 size b2:Nat} {d2:TypeDesc} {z1 z2:Value} (h:g.ty ty=some ⟨a1,.slice e,n1,b1,z1⟩) (h2:g.ty e=some ⟨a2,d2,size,b2,z2⟩) (hz:z2.cells.size=size) (hs:1≤size)
    {v:Value} {n:Nat} {cells:List Value} (hv:AOwn B w e size v n cells) (f:Fresh w) (hB:B≤w.next) {new:List Value} (hlen:new.length=size) (h1:∀ y ∈ new,oneCell y=true) (hr1:n+1≤140737488355328) (hr2:(n+1) * b2≤140737488355328) :
    ∃ v' w',append g (w.push (.cells new e' w.next 0 0)) ty ty v (.slice (some ⟨w.next,0,none⟩) 1 1)=some (v',w')/\AOwn B w' e size v' (n+1) (cells++new)/\Keep B w w'/\Fresh w'/\w.next < w'.next/\Apnd w w':=by
 have hA:=hv.keep ((Keep.refl w.next w).push (Nat.le_refl _) (.cells new e' w.next 0 0)) (Nat.le_refl _)
 have hO:=Own.new f e' new
 obtain ⟨v',w',a,b,c,d,e,hap⟩:=append_own2R (m:=1) (cap:=1) (p:=some ⟨w.next,0,none⟩) (new:=new) h h2 hz hs hA (f.push _) (by rw[AW.next_push];omega) rfl
  (by show aCells _ w.next 0 (1 * size)=_
      rw[Nat.one_mul,<- hlen]
      exact aCells_of new 0 fun k v hv=>by rw[Nat.zero_add];exact hO.cell hv (h1 v (List.mem_of_getElem? hv)))
  (by rw[Nat.one_mul];exact hlen) h1 (by omega) hr1 hr2
 exact⟨v',w',a,b,((Keep.refl _ _).push hB _).trans c,d,by rw[AW.next_push]at e;omega,(Apnd.push w _).trans hap⟩
theorem append_one {g:Prg} {w:AW} {B:Nat} {ty e e':TypeId} {a1 a2:Bool} {n1 b1 size b2:Nat} {d2:TypeDesc} {z1 z2:Value} (h:g.ty ty=some ⟨a1,.slice e,n1,b1,z1⟩) (h2:g.ty e=some ⟨a2,d2,size,b2,z2⟩) (hz:z2.cells.size=size) (hb2:b2≤1048576) (hs:1≤size)
    {v:Value} {n:Nat} {cells:List Value} (hv:AOwn B w e size v n cells) (f:Fresh w) (hB:B≤w.next) {new:List Value} (hlen:new.length=size) (h1:∀ y ∈ new,oneCell y=true) (hroom:n+1≤1048576) :
    ∃ v' w',append g (w.push (.cells new e' w.next 0 0)) ty ty v (.slice (some ⟨w.next,0,none⟩) 1 1)=some (v',w')/\AOwn B w' e size v' (n+1) (cells++new)/\Keep B w w'/\Fresh w'/\w.next < w'.next/\Apnd w w':=by
 have hp:=Nat.mul_le_mul hroom hb2
 exact append_oneR h h2 hz hs hv f hB hlen h1 (by omega) (by omega)
theorem guardB_undef (b:Bool):guardB undef b=false:=rfl
theorem fast_makeFunc {g:Prg} {t:Tmps} {w:AW} {f:FuncId} {a b:List Operand}:fast g t w (.makeFunc (.func f) ⟨a⟩ ⟨b⟩)=some (.func (.func f) (a.map (ev t)).toArray (b.map (ev t)).toArray):=by
 show some (Value.func (.func f) ((Array.mk a).map (ev t)) ((Array.mk b).map (ev t)))=_
 simp
attribute [go_sem] fast_makeFunc Array.toList_append guardB_undef
def inR (a n b:Int):Bool:=decide (a≤n) && decide (n≤b)
theorem inR_iff (a n b:Int):inR a n b=true↔a≤n/\n≤b:=by simp[inR]
def Grown (w w':AW):Prop:=Keep w.next w w'/\Fresh w'
theorem Grown.refl {w:AW} (f:Fresh w):Grown w w:=⟨.refl _ _,f⟩
theorem Grown.trans {a b c:AW} (h:Grown a b) (k:Grown b c):Grown a c:=⟨h.1.trans (k.1.mono h.1.next),k.2⟩
theorem Grown.push {a b:AW} (h:Grown a b) (k:Blk):Grown a (b.push k):=⟨h.1.push (by have:=h.1.next;omega) k,h.2.push k⟩
def icells (n:Int):List Value:=[.int .i64 n]
def ArrOf {α:Type} (w:AW) (z:Nat) (enc:α->List Value) (v:Value) (xs:List α):Prop:=Arr w.next w z v (xs.map enc)
theorem ArrOf.open {α:Type} {w:AW} {z:Nat} {enc:α->List Value} {v:Value} {xs:List α} (h:ArrOf w z enc v xs) :
    ∃ p cap,v=.slice p xs.length cap/\xs.length≤cap/\(cap:Int)≤140737488355328 /\
     ∀ i (hi:i < xs.length),∃ b o,p=some ⟨b,o,none⟩/\b < w.next/\∀ w',Keep w.next w w'->∀ (j:Nat) x,(enc xs[i])[j]? = some x->w'.cell? ⟨b,o+i * z+j,none⟩=some x:=by
 obtain⟨p,n,cap,rfl,hn,hc,hm,hat⟩:=h
 obtain rfl:xs.length=n:=by simpa using hn
 refine⟨p,cap,rfl,hc,hm,fun i hi=>?_⟩
 obtain⟨b,o,rfl,hb,hcell⟩:=hat (by omega)
 exact⟨b,o,rfl,hb,fun w' hk j x hx=>by rw[hk.cell hb];exact hcell i j (enc xs[i]) x (by simp[hi]) hx⟩
theorem ArrOf.grown {α:Type} {w w':AW} {z:Nat} {enc:α->List Value} {v:Value} {xs:List α} (h:ArrOf w z enc v xs) (k:Grown w w'):ArrOf w' z enc v xs:=(Arr.keep h k.1 (Nat.le_refl _)).mono k.1.next
theorem ArrOf.kept {α:Type} {w w':AW} {z:Nat} {enc:α->List Value} {v:Value} {xs:List α} (h:ArrOf w z enc v xs) (k:Keep w.next w w'):ArrOf w' z enc v xs:=(Arr.keep h k (Nat.le_refl _)).mono k.next
theorem ArrOf.nil {α:Type} (w:AW) (z:Nat) (enc:α->List Value):ArrOf w z enc (.slice none 0 0) []:=⟨none,0,0,rfl,rfl,Nat.le_refl _,by omega,fun h=>by omega⟩
theorem icells_len (x:Int):(icells x).length=1:=rfl
theorem icells_one (x:Int):∀ v ∈ icells x,oneCell v=true:=by intro v hv;simp[icells]at hv;subst hv;rfl
theorem ArrOf.oneCell {α:Type} {w:AW} {z:Nat} {enc:α->List Value} {v:Value} {xs:List α} (h:ArrOf w z enc v xs):oneCell v=true:=by
 obtain⟨_,_,_,rfl,_⟩:=h;rfl
section
variable {P:Program} {told:ToldF}
theorem Left_one {rs:List ResultVar} {e:Ex} {t:Tmps} {b:Nat} {ds:List DI} {w:AW} {Q:Value->AW->Prop} (hb:w.blk b=some (.deferred (some []))) (h:Left (P:=P) rs e t ds (w.put b (.deferred none)) Q):Left (P:=P) rs e t (.mark b :: ds) w Q:=by
 obtain⟨h1,h1',w1,vs,h2,h3,h4⟩:=h
 exact⟨h1,h1',w1,vs,fun run=>by simp only[adefers,hb];exact h2 run,h3,h4⟩
theorem codeT_range {env:Env} (hr:env.round=none) {f:Operand} {ps:Array Tmp} {a b:Code} {t:Tmps} {ds:List DI} {w:AW} {Q:Ex->Tmps->List DI->AW->Prop} {fn:Fn} {first cap:Array Value} (hf:ev t f=.func fn first cap)
    (h:CallT P told (.fn fn cap) (first++#[.func (.yield (w.next+1)) #[] #[]]) ((w.push (.deferred (some []))).push (.loop ⟨.ready,none,env.fn,t,ps,a,b,w.next⟩)) fun _ w' =>
      ∃ lp:ALoop,w'.blk (w.next+1)=some (.loop lp)/\lp.state=.ready/\lp.pending=none/\∀ W,W=w'.put (w.next+1) (.loop { lp with state:=.exhausted })->Q .normal t (.mark w.next :: ds) W) :
    CodeT P told env (.rangeFunc f ps a b) t ds w Q:=by
 obtain⟨N,v,w',h1,lp,h2,h3,h4,h5⟩:=h
 refine⟨N+1,.normal,t,.mark w.next :: ds,_,fun F n m hF hn hm=>?_,h5 _ rfl⟩
 obtain⟨m,rfl⟩:∃ k,m=k+1:=⟨m - 1,by omega⟩
 have hfull:w.full=false:=rfl
 have hn1:(w.push (.deferred (some []))).next=w.next+1:=AW.next_push _ _
 obtain⟨st,pd,f1,t1,p1,a1,b1,d1⟩:=lp
 simp only at h3 h4
 subst h3 h4
 simp only[acode,aloop,hfull,aboutLoop,hr,hf,hn1,h1 F n (by omega) (by omega),ofCall,endLoopA,h2]
theorem callT_yield {l:Nat} {cap args:Array Value} {w:AW} {Q:Value->AW->Prop} {lp:ALoop} (hl:w.blk l=some (.loop lp)) (hs:Nat.beq args.size lp.params.size=true)
    (h:CodeT P told { fn:=lp.fn,round:=some l } lp.assign (putAll lp.tmps (lp.params.toList.zip args.toList)) [] w fun e t1 ds1 w1=>e=.normal/\∃ lp1:ALoop,w1.blk l=some (.loop lp1)/\lp1.state=.ready /\
      CodeT P told { fn:=lp.fn,round:=some l } lp.body t1 ds1 (w1.put l (.loop { lp1 with state:=.busy })) fun e2 t2 ds2 w2=>e2=.normal/\ds2=[]/\∃ lp2:ALoop,w2.blk l=some (.loop lp2)/\Q (.bool true) (w2.put l (.loop { lp2 with state:=.ready,pending:=none }))) :
    CallT P told (.fn (.yield l) cap) args w Q:=by
 obtain⟨N,e,t1,ds1,w1,h1,rfl,lp1,h2,h3,N2,e2,t2,ds2,w2,k1,rfl,rfl,lp2,k2,k3⟩:=h
 refine⟨N+N2+1,.bool true,_,fun F n hF hn=>?_,k3⟩
 obtain⟨n,rfl⟩:∃ k,n=k+1:=⟨n - 1,by omega⟩
 obtain⟨st,pd,f1,t0,p1,a1,b1,d1⟩:=lp
 obtain⟨st1,pd1,f2,t3,p2,a2,b2,d2⟩:=lp1
 obtain⟨st2,pd2,f3,t4,p3,a3,b3,d3⟩:=lp2
 simp only at h3
 subst h3
 simp only at hs h1 k1
 simp only[acall,around,hl,hs,roundBody,h1 F n F (by omega) (by omega) (by omega),h2,k1 F n F (by omega) (by omega) (by omega),doneWith,adone,k2,guardPan]
end
end Go.Sim

namespace Go.Sim
open Go Go.RowKit
theorem arr_new {α:Type} {w:AW} {z:Nat} {enc:α->List Value} {p:Option Addr} {n c:Nat} {xs:List α} (h:ArrOf w z enc (.slice p n c) xs) (hz:∀ x,(enc x).length=z) (h0:1≤z):aNew w z n (.slice p n c)=some (xs.flatMap enc):=by
 obtain⟨p',cap,e,_,_,hat⟩:=h.open
 injection e with e1 e2 e3
 subst e1 e2 e3
 by_cases hn:xs.length=0
 · obtain rfl:xs=[]:=List.length_eq_zero_iff.mp hn
   cases p with
   | none=>rfl
   | some a =>
    obtain⟨b,o,s⟩:=a
    cases s with
    | none=>simp[aNew,aFirst,aCells]
    | some s=>simp[aNew,aFirst]
 · obtain ⟨b,o,rfl,hb,_⟩:=hat 0 (by omega)
   have hf:aFirst w z xs.length (.slice (some ⟨b,o,none⟩) xs.length c)=some (xs.flatMap enc):=by
    show aCells w b o (xs.length * z)=_
    have hlen:∀ L:List α,(L.flatMap enc).length=L.length * z:=by
     intro L
     induction L with
     | nil=>simp
     | cons x L ih=>rw[List.flatMap_cons,List.length_append,hz,ih,List.length_cons,Nat.add_mul,Nat.one_mul];omega
    rw[<- hlen xs]
    refine aCells_of _ _ fun i v hv=>?_
    have hi:i < (xs.flatMap enc).length:=by
     rcases Nat.lt_or_ge i (xs.flatMap enc).length with q|q
     . exact q
     . rw[List.getElem?_eq_none q]at hv;cases hv
    rw[hlen]at hi
    have hdiv:i / z < xs.length:=by rw[Nat.div_lt_iff_lt_mul (by omega)];exact hi
    have hmod:i % z < z:=Nat.mod_lt _ (by omega)
    have hie:i / z * z+i % z=i:=by rw[Nat.mul_comm];exact Nat.div_add_mod i z
    obtain⟨b',o',e',hb',hc⟩:=hat (i / z) hdiv
    injection e' with e'
    injection e' with e1 e2 e3
    subst e1 e2
    have hg:=flatMap_get hz xs (i / z) (i % z) xs[i / z] (by simp) hmod
    rw[hie,hv]at hg
    have:=hc w (.refl _ _) (i % z) v hg.symm
    rw[Nat.add_assoc,hie]at this
    exact this
   unfold aNew
   rw[hf]
theorem append_empty {g:Prg} {w:AW} {ty e e':TypeId} {a1 a2:Bool} {n1 b1 size b2:Nat} {d2:TypeDesc} {z1 z2:Value} (h:g.ty ty=some ⟨a1,.slice e,n1,b1,z1⟩) (h2:g.ty e=some ⟨a2,d2,size,b2,z2⟩) (hz:z2.cells.size=size) (hs:1≤size)
    {b:Nat} (hb:w.blk b=some (.cells [] e' b 0 0)) (f:Fresh w) {x:Value} {m cap:Nat} {p:Option Addr} {new:List Value} (hx:x=.slice p m cap) (hnew:aNew w size m x=some new) (hlen:new.length=m * size) (h1:∀ y ∈ new,oneCell y=true) (hr1:m≤140737488355328) (hr2:m * b2≤140737488355328) :
    ∃ v' w',append g w ty ty (.slice (some ⟨b,0,none⟩) 0 0) x=some (v',w')/\Keep w.next w w'/\Fresh w'/\((m=0/\v'=.slice (some ⟨b,0,none⟩) 0 0/\w'=w) \/ AOwn w.next w' e size v' m new):=by
 subst hx
 have cond:(Nat.beq z2.cells.size size && Nat.ble (0+m) room && Nat.ble ((0+m) * b2) room && Nat.ble 1 size && Nat.beq ty ty)=true:=by
  have:room=140737488355328:=rfl
  simp only[Bool.and_eq_true]
  exact⟨⟨⟨⟨by rw[hz];exact Nat.beq_refl _,Nat.ble_eq_true_of_le (by omega)⟩,Nat.ble_eq_true_of_le (by rw[Nat.zero_add];omega)⟩,Nat.ble_eq_true_of_le hs⟩,Nat.beq_refl _⟩
 have hfull:w.full=false:=rfl
 by_cases hm:m=0
 . subst hm
   obtain rfl:new=[]:=List.length_eq_zero_iff.mp (by rw[hlen];omega)
   refine⟨.slice (some ⟨b,0,none⟩) 0 0,w,?_,.refl _ _,f,.inl ⟨rfl,rfl,rfl⟩⟩
   unfold append
   simp only[h,h2,cond,hnew]
   rfl
 · have hle:Nat.ble (0+m) 0=false:=by
     cases q:Nat.ble (0+m) 0 with
     | false=>rfl
     | true=>have:=Nat.le_of_ble_eq_true q;omega
   have hold:aFirst w size 0 (.slice (some ⟨b,0,none⟩) 0 0)=some []:=by simp[aFirst,aCells]
   have h00:Nat.beq 0 0=true:=rfl
   refine⟨.slice (some ⟨w.next,0,none⟩) (0+m) (0+m),w.push (.cells ([]++new) e w.next 0 size),?_,(Keep.refl _ _).push (Nat.le_refl _) _,f.push _,.inr (.inr ⟨w.next,w.next,by rw[Nat.zero_add],Nat.le_refl _,by rw[AW.next_push];omega,Nat.le_refl _,by rw[AW.next_push];omega,by rw[blk_push_top,List.nil_append],hlen,h1,fun j hj=>?_⟩)⟩
   . unfold append
     simp only[h,h2,cond,hnew,hle,hold,AW.grow,hfull,hb,h00]
   . rw[AW.family_push,f.2 _ (Nat.le_refl _)]at hj
     simp only[members,List.mem_singleton]at hj
     subst hj
     exact⟨Nat.le_refl _,by rw[AW.next_push];omega,_,_,blk_push_top _ _,by simp[hlen]⟩
theorem AOwn.arrR {α:Type} {B:Nat} {w:AW} {e:TypeId} {enc:α->List Value} {z:Nat} {v:Value} {L:List α} (h:AOwn B w e z v L.length (L.flatMap enc)) (hz:∀ x,(enc x).length=z) (hl:L.length≤140737488355328):ArrOf w z enc v L:=by
 rcases h with ⟨rfl,h2,_⟩|⟨b,r,rfl,q1,q2,q3,q4,q5,q6,q8,q7⟩
 . obtain rfl:L=[]:=List.length_eq_zero_iff.mp h2
   exact ArrOf.nil _ _ _
 · refine ⟨_,_,_,rfl,by simp,Nat.le_refl _,by omega,fun _=>⟨b,0,rfl,q2,fun i j r x hi hx=>?_⟩⟩
   rw[List.getElem?_map]at hi
   obtain⟨y,hy,rfl⟩:=Option.map_eq_some_iff.mp hi
   have hj:j < z:=by
    rw[<- hz y]
    rcases Nat.lt_or_ge j (enc y).length with q|q
    . exact q
    . rw[List.getElem?_eq_none q]at hx;cases hx
   rw[Nat.zero_add]
   have hx':(L.flatMap enc)[i * z+j]? = some x:=by rw[flatMap_get hz L i j y hy hj];exact hx
   simp only[AW.cell?,q5,getL_eq,hx',q8 x (List.mem_of_getElem? hx')]
end Go.Sim
namespace Go.Sim
open Go Go.RowKit
end Go.Sim
namespace Go.Sim
open Go Go.RowKit
end Go.Sim
