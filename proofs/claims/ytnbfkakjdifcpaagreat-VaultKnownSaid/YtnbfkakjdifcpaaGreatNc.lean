/- Open calls of the machine, part 2: memory; what a call is given; how a law closes. -/
import Derived.Test.YtnbfkakjdifcpaaGreatNa
import Derived.IntWalk
import GoSem.ClaimChange
import Derived.ChangeArms
set_option linter.unusedVariables false
set_option linter.unusedSimpArgs false
namespace Go.Sim
open Go Go.RowKit
variable {P:Program} {told:ToldF} {env:Env}
structure Keep (B:Nat) (w w':AW):Prop where
 blk:∀ b,b < B->w'.blk b=w.blk b
 fam:∀ r,r < B->w'.family r=w.family r
 next:w.next≤w'.next
theorem Keep.refl (B:Nat) (w:AW):Keep B w w:=⟨fun _ _=>rfl,fun _ _=>rfl,Nat.le_refl _⟩
theorem Keep.trans {B:Nat} {a b c:AW} (h:Keep B a b) (k:Keep B b c):Keep B a c :=
 ⟨fun i hi=>(k.blk i hi).trans (h.blk i hi),fun i hi=>(k.fam i hi).trans (h.fam i hi),Nat.le_trans h.next k.next⟩
theorem Keep.mono {B C:Nat} {a b:AW} (h:Keep B a b) (k:C≤B):Keep C a b:=⟨fun i hi=>h.blk i (by omega),fun i hi=>h.fam i (by omega),h.next⟩
theorem Keep.push {B:Nat} {a w:AW} (h:Keep B a w) (hB:B≤w.next) (k:Blk):Keep B a (w.push k) :=
 ⟨fun i hi=>by rw[AW.blk_push _ _ _ (Trie.in_ _) (Trie.in_ _),if_neg (by omega)];exact h.blk i hi,fun i hi=>by rw[AW.family_push];exact h.fam i hi,by rw[AW.next_push];have:=h.next;omega⟩
theorem Keep.put {B:Nat} {a w:AW} (h:Keep B a w) {b:Nat} (hB:B≤b) (k:Blk):Keep B a (w.put b k) :=
 ⟨fun i hi=>by rw[AW.blk_put _ _ _ _ (Trie.in_ _) (Trie.in_ _),if_neg (by omega)];exact h.blk i hi,fun i hi=>by rw[AW.family_put];exact h.fam i hi,by rw[AW.next_put];exact h.next⟩
theorem Keep.cell {B:Nat} {w w':AW} (h:Keep B w w') {b o:Nat} (hb:b < B):w'.cell? ⟨b,o,none⟩=w.cell? ⟨b,o,none⟩:=by
 simp only[AW.cell?,h.blk b hb]
theorem Fresh.put {w:AW} (h:Fresh w) {b:Nat} (hb:b < w.next) (k:Blk):Fresh (w.put b k):=⟨fun i hi=>by
 rw[AW.next_put]at hi
 rw[AW.blk_put _ _ _ _ (Trie.in_ _) (Trie.in_ _),if_neg (by omega)];exact h.1 i hi,fun r hr=>by rw[AW.next_put]at hr;rw[AW.family_put];exact h.2 r hr⟩
def Arr (B:Nat) (w:AW) (z:Nat) (v:Value) (rows:List (List Value)):Prop :=
 ∃ p n cap,v=.slice p n cap/\rows.length=n/\n≤cap/\(cap:Int)≤140737488355328 /\
  (0 < n->∃ b o,p=some ⟨b,o,none⟩/\b < B/\∀ (i j:Nat) r x,rows[i]? = some r->r[j]? = some x->w.cell? ⟨b,o+i * z+j,none⟩=some x)
theorem Arr.keep {B C:Nat} {w w':AW} {z:Nat} {v:Value} {rows:List (List Value)} (h:Arr B w z v rows) (k:Keep C w w') (hBC:B≤C):Arr B w' z v rows:=by
 obtain⟨p,n,cap,a,b,c,c2,d⟩:=h
 exact⟨p,n,cap,a,b,c,c2,fun hn=>let ⟨bb,o,e,f,g⟩:=d hn;⟨bb,o,e,f,fun i j r x hr hx=>by rw[k.cell (by omega)];exact g i j r x hr hx⟩⟩
theorem Arr.mono {B C:Nat} {w:AW} {z:Nat} {v:Value} {rows:List (List Value)} (h:Arr B w z v rows) (k:B≤C):Arr C w z v rows:=by
 obtain⟨p,n,cap,a,b,c,c2,d⟩:=h
 exact⟨p,n,cap,a,b,c,c2,fun hn=>let ⟨bb,o,e,f,g⟩:=d hn;⟨bb,o,e,by omega,g⟩⟩
section
variable {g:Prg} {t:Tmps} {w:AW}
end
attribute [go_sem] Array.append_empty List.toList_toArray List.append_nil List.nil_append List.cons_append List.map_cons List.map_nil Nat.zero_mul sameKind pickV extractV tupled decide_true decide_false AW.next_push AW.next_put oneCell Value.cells getL setL Bool.and_true Bool.and_false Bool.true_and Bool.false_and beq_self_eq_true Bool.not_true Bool.not_false
end Go.Sim

namespace Go.Sim
open Go Go.RowKit
theorem WRel.give {N:Nat} {σ:Emb} {w:AW} {W:World} (h:WRel N σ w W) (c:List Value) (x:Loc) (hz:x.z=0) (hl:c=[] \/ x.c < N)
    (hr:∀ o v,c[o]? = some v->oneCell v=true->∃ cc ce fr v',W.heap[x.c]? = some (.cells cc ce fr)/\cc[x.s+o]? = some v'/\VRel σ v v'):WRel N (σ.with w.next x) (w.push (.given c)) W:=by
 have hle:=Emb.le_with h.fresh x
 have hb:∀ j,(w.push (.given c)).blk j=if j=w.next then some (.given c) else w.blk j:=fun j=>AW.blk_push w j _ (Trie.in_ _) (Trie.in_ _)
 refine⟨fun j k _ hk=>?_,trivial,fun j y hj=>?_,fun j j' y y' hj hj' hc hjj=>?_,fun j c' e r base z _ hw=>?_,fun j c' e r base z _ hw=>?_,fun r j hr' hj=>?_,fun r hr' hr''=>?_,h.old⟩
 . rw[AW.next_push];rw[hb]at hk
   split at hk
   . omega
   . have:=h.wf j k (Trie.in_ _) hk;omega
 · by_cases q:j=w.next
   . subst q
     rw[Emb.with_self]at hj
     obtain rfl:=Option.some.inj hj
     exact⟨by rw[AW.next_push];omega,.given c,by rw[hb,if_pos rfl],⟨hz,hl⟩,fun o v ho hv=>let ⟨cc,ce,fr,v',a,b,d⟩:=hr o v ho hv;⟨cc,ce,fr,v',a,b,d.mono hle⟩⟩
   . rw[Emb.with_ne _ _ _ q]at hj
     obtain⟨a,k,hk,b,d⟩:=h.dom j y hj
     exact⟨by rw[AW.next_push];omega,k,by rw[hb,if_neg q];exact hk,b,d.mono hle⟩
 · by_cases q:j=w.next
   . exact .inl ⟨c,by rw[hb,if_pos q]⟩
   · by_cases q':j'=w.next
     . exact .inr (.inl ⟨c,by rw[hb,if_pos q']⟩)
     . rw[Emb.with_ne _ _ _ q]at hj;rw[Emb.with_ne _ _ _ q']at hj'
       rw[hb,hb,if_neg q,if_neg q']
       exact h.inj j j' y y' hj hj' hc hjj
 . rw[AW.family_push];rw[hb]at hw
   split at hw
   . cases hw
   . exact h.fam j c' e r base z (Trie.in_ _) hw
 . rw[AW.next_push];rw[hb]at hw
   split at hw
   . cases hw
   . have:=h.root j c' e r base z (Trie.in_ _) hw;omega
 . rw[AW.family_push]at hj
   obtain⟨y,hy⟩:=h.famIn r j hr' hj
   exact⟨y,hle j y hy⟩
 . rw[AW.family_push];rw[AW.next_push]at hr''
   exact h.famKey r hr' (by omega)
def GivenAt (w:AW) (v:Value):Prop:=∀ b o s n c,v=.slice (some ⟨b,o,s⟩) n c->0 < n->b < w.next/\∃ cs,w.blk b=some (.given cs)
theorem GivenAt.keep {w w':AW} {v:Value} (h:GivenAt w v) (k:Keep w.next w w'):GivenAt w' v:=fun b o s n c e hn=>by
 obtain⟨h1,cs,h2⟩:=h b o s n c e hn
 exact⟨Nat.lt_of_lt_of_le h1 k.next,cs,by rw[k.blk b h1];exact h2⟩
def EndAt (w:AW) (v:Value):Prop:=(∀ n c,v=.slice none n c->n=0/\c=0)/\∀ b o s n c,v=.slice (some ⟨b,o,s⟩) n c->(0 < c->s=none/\b < w.next/\∃ cs,w.blk b=some (.given cs))/\(c=0->b=0/\o=0/\s=some 0)
theorem EndAt.keep {w w':AW} {v:Value} (h:EndAt w v) (k:Keep w.next w w'):EndAt w' v:=⟨h.1,fun b o s n c e=>by
 obtain⟨h1,h2⟩:=h.2 b o s n c e
 refine⟨fun hc=>?_,h2⟩
 obtain⟨a,h1,cs,h3⟩:=h1 hc
 exact⟨a,Nat.lt_of_lt_of_le h1 k.next,cs,by rw[k.blk b h1];exact h3⟩⟩
def RoomAt (P:Program) (e:TypeId) (v:Value):Prop:=∀ p n c,v=.slice p n c->c * P.bytesOf e≤140737488351232
def Hd (P:Program) (w:AW):Nat->TypeId->List Value->Prop
 | 0,_,_=>False
 | n+1,t,cs =>
  match P.underlying t with
  | some .bool=>∃ b,cs=[.bool b]
  | some (.int k)=>∃ i,cs=[.int k i]/\k.min≤i/\i≤k.max
  | some .string=>∃ s,cs=[.string s]/\s.size≤140737488355328
  | some (.slice e)=>∃ v rows,cs=[v]/\Arr w.next w (P.cellsOf e) v rows/\(∀ r ∈ rows,Hd P w n e r)/\GivenAt w v/\RoomAt P e v/\EndAt w v
  | some (.struct fs)=>∃ parts:List (List Value),cs=parts.flatten/\parts.length=fs.size/\∀ (i:Nat) (f:Field) (p:List Value),fs[i]? = some f->parts[i]? = some p->Hd P w n f.type p
  | some (.array k e)=>∃ parts:List (List Value),cs=parts.flatten/\parts.length=k/\∀ p ∈ parts,Hd P w n e p
  | _=>False
theorem Hd.keep {P:Program} {w w':AW} (k:Keep w.next w w'):∀ {n:Nat} {t:TypeId} {cs:List Value},Hd P w n t cs->Hd P w' n t cs
 | 0,_,_,h=>h
 | n + 1,t,cs,h=>by
  unfold Hd at h ⊢
  split at h
  . exact h
  . exact h
  . exact h
  . obtain⟨v,rows,a,b,c,d⟩:=h
    exact⟨v,rows,a,(b.keep k (Nat.le_refl _)).mono k.next,fun r hr=>Hd.keep k (c r hr),d.1.keep k,d.2.1,d.2.2.keep k⟩
  . obtain⟨parts,a,b,c⟩:=h
    exact⟨parts,a,b,fun i f p h1 h2=>Hd.keep k (c i f p h1 h2)⟩
  . obtain⟨parts,a,b,c⟩:=h
    exact⟨parts,a,b,fun p hp=>Hd.keep k (c p hp)⟩
  . exact h
theorem Hd.one {P:Program} {w:AW}:∀ {n:Nat} {t:TypeId} {cs:List Value},Hd P w n t cs->∀ x ∈ cs,oneCell x=true
 | 0,_,_,h=>h.elim
 | n + 1,t,cs,h=>by
  unfold Hd at h
  split at h
  . obtain⟨b,rfl⟩:=h;intro x hx;simp only[List.mem_singleton]at hx;subst hx;rfl
  . obtain⟨b,rfl,_⟩:=h;intro x hx;simp only[List.mem_singleton]at hx;subst hx;rfl
  . obtain⟨b,rfl,_⟩:=h;intro x hx;simp only[List.mem_singleton]at hx;subst hx;rfl
  . obtain⟨v,rows,rfl,⟨p,k,cap,rfl,_⟩,_⟩:=h;intro x hx;simp only[List.mem_singleton]at hx;subst hx;rfl
  · obtain ⟨parts,rfl,hl,c⟩:=h
    intro x hx
    obtain⟨p,hp,hx⟩:=List.mem_flatten.mp hx
    obtain⟨i,hi⟩:=List.getElem?_of_mem hp
    have hil:i < parts.length:=by
     rcases Nat.lt_or_ge i parts.length with q|q
     . exact q
     . rw[List.getElem?_eq_none q]at hi;cases hi
    exact Hd.one (c i _ p (Array.getElem?_eq_getElem (by omega)) hi) x hx
  . obtain⟨parts,rfl,_,c⟩:=h
    intro x hx
    obtain⟨p,hp,hx⟩:=List.mem_flatten.mp hx
    exact Hd.one (c p hp) x hx
  . exact h.elim
section
variable {H:Type} {enc:TypeId × Value->H} {P:Program} {W:World} {N:Nat} {S:List TypeId}
structure Got (N:Nat) (W:World) (σ:Emb) (w:AW) (σ':Emb) (w':AW):Prop where
 le:σ.le σ'
 keep:Keep w.next w w'
 fresh:Fresh w'
 rel:WRel N σ' w' W
theorem Got.trans {σ σ' σ'':Emb} {w w' w'':AW} (h:Got N W σ w σ' w') (k:Got N W σ' w' σ'' w''):Got N W σ w σ'' w'' :=
 ⟨h.le.trans k.le,h.keep.trans (k.keep.mono h.keep.next),k.fresh,k.rel⟩
theorem LRel.flat {σ:Emb}:∀ {a b:List (List Value)},a.length=b.length->(∀ (i:Nat) x y,a[i]? = some x->b[i]? = some y->LRel σ x y)->LRel σ a.flatten b.flatten
 | [],[],_,_=>.nil
 | x :: a,y :: b,h,k=>by
  simp only[List.flatten_cons]
  exact (k 0 x y (by simp) (by simp)).append (LRel.flat (by simpa using h) fun i u v hu hv=>k (i+1) u v (by simpa using hu) (by simpa using hv))
 | [],_ :: _,h,_=>by simp at h
 | _ :: _,[],h,_=>by simp at h
theorem cell_at {W:World} {c o:Nat} {v:Value} (h:W.cell? ⟨c,o,none⟩=some v):∃ cc ce fr,W.heap[c]? = some (.cells cc ce fr)/\cc[o]? = some v:=by
 unfold World.cell? at h
 simp only at h
 split at h
 . rename_i cc ce fr hq
   exact⟨cc,ce,fr,hq,by simpa using h⟩
 . cases h
end
end Go.Sim
