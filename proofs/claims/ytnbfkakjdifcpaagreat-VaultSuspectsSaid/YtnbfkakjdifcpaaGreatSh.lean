/- Sums shared out by the greatest quotient, and spread over dues: the numbers. Rows that are filled in place. -/
import Derived.Test.YtnbfkakjdifcpaaGreatNc
set_option linter.unusedVariables false
set_option linter.unusedSimpArgs false
namespace Go.Sim
def W (l:List Int) (i:Nat):Int:=l.getD i 0
theorem W_at {l:List Int} {i:Nat} (h:i < l.length):W l i=l[i]:=by simp[W,List.getD,h]
def NN (w:List Int):Prop:=∀ i,0≤W w i
def pick (p:Nat->Bool) (n:Nat):List Nat:=(List.range n).filter p
end Go.Sim

namespace Go.Sim
open Go Go.RowKit
section
variable {P:Program} {told:ToldF} {draw tie:Bool} {d:Option Tmp} {ty0:TypeId} {pos:String} {af:Array Edge} {gd:Option (Tmp × Bool)}
theorem flat_icells (L:List Int):L.flatMap icells=L.map (Value.int .i64):=by
 induction L with
 | nil=>rfl
 | cons x L ih=>rw[List.flatMap_cons,ih];rfl
theorem icells_flat_len (L:List Int):(L.flatMap icells).length=L.length:=by rw[flat_icells,List.length_map]
theorem icells_at {L:List Int} {i:Nat} (h:i < L.length):(L.flatMap icells)[i]? = some (.int .i64 (W L i)):=by
 rw[flat_icells,List.getElem?_map,W_at h];simp[h]
theorem setL_ic (L:List Int) (i:Nat) (x:Int):setL (L.flatMap icells) i (.int .i64 x)=(L.set i x).flatMap icells:=by
 rw[setL_eq,flat_icells,flat_icells,List.map_set]
theorem Own.icell {w:AW} {b:Nat} {e:TypeId} {L:List Int} (h:Own w b e (L.flatMap icells)) {i:Nat} (hi:i < L.length):w.cell? ⟨b,i,none⟩=some (.int .i64 (W L i)):=h.cell (icells_at hi) rfl
end
end Go.Sim

namespace Go.Sim
open Go Go.RowKit
theorem strike_same {me cls j i:Nat} {w:AW} {c:List Value} {e r z:Nat} (h:w.blk i=some (.cells c e r 0 z)):∃ c',(strike me cls w j).blk i=some (.cells c' e r 0 z)/\c'.length=c.length/\(i=me->c'=c):=by
 by_cases hij:i=j
 · subst hij
   unfold strike
   cases hb:Nat.beq i me with
   | true=>exact⟨c,h,rfl,fun _=>rfl⟩
   | false =>
    have hne:i ≠ me:=fun q=>by rw[q,Nat.beq_refl]at hb;cases hb
    simp only[h]
    split
    . split
      . exact⟨_,by rw[AW.blk_put _ _ _ _ (Trie.in_ _) (Trie.in_ _),if_pos rfl],by rw[setL_eq,List.length_set],fun q=>absurd q hne⟩
      . exact⟨c,h,rfl,fun _=>rfl⟩
    . exact⟨c,h,rfl,fun _=>rfl⟩
 . rw[strike_other hij];exact⟨c,h,rfl,fun _=>rfl⟩
theorem strikes_same {me cls i e r z:Nat}:∀ (l:List Nat) {w:AW} {c:List Value},w.blk i=some (.cells c e r 0 z)->∃ c',(strikes me cls l w).blk i=some (.cells c' e r 0 z)/\c'.length=c.length/\(i=me->c'=c)
 | [],w,c,h=>⟨c,h,rfl,fun _=>rfl⟩
 | j :: l,w,c,h=>by
  obtain⟨c1,h1,h2,h3⟩:=strike_same (me:=me) (cls:=cls) (j:=j) h
  obtain⟨c2,k1,k2,k3⟩:=strikes_same (me:=me) (cls:=cls) l h1
  exact⟨c2,k1,by omega,fun q=>by rw[k3 q,h3 q]⟩
theorem append_anyS {g:Prg} {u:AW} {S:Nat->Prop} {ty e:TypeId} {a1 a2:Bool} {n1 b1 size b2:Nat} {d2:TypeDesc} {z1 z2:Value} (h:g.ty ty=some ⟨a1,.slice e,n1,b1,z1⟩) (h2:g.ty e=some ⟨a2,d2,size,b2,z2⟩) (hz:z2.cells.size=size) (hb2:b2≤1048576) (hs:1≤size)
    {v:Value} {n:Nat} {cells:List Value} (hv1:AOwnS S u e size v n cells) (f1:Fresh u) {p:Option Addr} {cap:Nat} {new:List Value} (hnew:aFirst u size 1 (.slice p 1 cap)=some new) (hlen:new.length=size) (h1:∀ y ∈ new,oneCell y=true) (hroom:n+1≤1048576) :
    ∃ v' w',append g u ty ty v (.slice p 1 cap)=some (v',w')/\AOwnS (fun j=>S j \/ j=u.next) w' e size v' (n+1) (cells++new)/\Fresh w'/\w'.next=u.next+1 /\
     (∀ j,j < u.next->w'.blk j=u.blk j)/\(∀ j,j < u.next->¬ S j->w'.family j=u.family j)/\WLe u w':=by
 have cond:(Nat.beq z2.cells.size size && Nat.ble (n+1) room && Nat.ble ((n+1) * b2) room && Nat.ble 1 size && Nat.beq ty ty)=true:=by
  have:room=140737488355328:=rfl
  have hp:=Nat.mul_le_mul hroom hb2
  simp only[Bool.and_eq_true]
  exact⟨⟨⟨⟨by rw[hz];exact Nat.beq_refl _,Nat.ble_eq_true_of_le (by omega)⟩,Nat.ble_eq_true_of_le (by omega)⟩,Nat.ble_eq_true_of_le hs⟩,Nat.beq_refl _⟩
 have hle:∀ k,Nat.ble (k+1) k=false:=fun k=>by
  cases q:Nat.ble (k+1) k with
  | false=>rfl
  | true=>have:=Nat.le_of_ble_eq_true q;omega
 have hfull:u.full=false:=rfl
 have wle:∀ w':AW,(∀ j,j < u.next->w'.blk j=u.blk j)->WLe u w':=fun w' hw j y hj=>by
  by_cases q:j < u.next
  . rw[hw j q];exact hj
  . rw[f1.1 j (by omega)]at hj;cases hj
 rcases hv1 with ⟨rfl,rfl,rfl⟩|⟨b,r,rfl,q1,q2,q3,q4,q5,q6,q8,q7⟩
 · refine ⟨.slice (some ⟨u.next,0,none⟩) (0+1) (0+1),u.push (.cells ([]++new) e u.next 0 size),?_,.inr ⟨u.next,u.next,rfl,.inr rfl,by rw[AW.next_push];omega,.inr rfl,by rw[AW.next_push];omega,blk_push_top _ _,by simp[hlen],by simpa using h1,fun j hj=>?_⟩,f1.push _,by rw[AW.next_push],
     fun j hj=>blk_push_ne hj _,fun j hj _=>AW.family_push _ _ _,wle _ fun j hj=>blk_push_ne hj _⟩
   . have hnil:aFirst u size 0 (.slice none 0 0)=some []:=rfl
     unfold append
     simp only[h,h2,cond,aNew,hnew,hle,hnil,AW.grow,hfull]
   . rw[AW.family_push,f1.2 _ (Nat.le_refl _)]at hj
     simp only[members,List.mem_singleton]at hj
     subst hj
     exact⟨.inr rfl,by rw[AW.next_push];omega,_,_,blk_push_top _ _,by simp[hlen]⟩
 · have hsz0:Nat.beq size 0=false:=by rw[nbeq];simp;omega
   have hszz:Nat.beq size size=true:=Nat.beq_refl _
   have hold:aFirst u size n (.slice (some ⟨b,0,none⟩) n n)=some cells:=by
    show aCells u b 0 (n * size)=some cells
    rw[<- q6]
    exact aCells_of cells 0 fun i y hy=>by simp only[AW.cell?,q5,Nat.zero_add,getL_eq,hy,q8 y (List.mem_of_getElem? hy)]
   have hstr:struckOver u.next (members (u.family r) r) (1 * size) (0+0+n * size) u=u:=struckOver_none _ _ _ _ _ fun j hj=>by
    obtain⟨_,_,c,e',a,b⟩:=q7 j hj
    exact⟨c,e',r,size,a,by omega⟩
   have hbk:∀ j,(u.lay r (members (u.family r) r) (.cells (cells++new) e r (0+0) size)).blk j=if j=u.next then some (.cells (cells++new) e r (0+0) size) else u.blk j:=fun j=>AW.blk_lay _ _ _ _ _ (Trie.in_ _) (Trie.in_ _)
   have hfm:∀ j,(u.lay r (members (u.family r) r) (.cells (cells++new) e r (0+0) size)).family j=if j=r then u.next :: members (u.family r) r else u.family j:=fun j=>AW.family_lay _ _ _ _ _ (Trie.in_ _) (Trie.in_ _)
   refine ⟨.slice (some ⟨u.next,0,none⟩) (n+1) (n+1),u.lay r (members (u.family r) r) (.cells (cells++new) e r (0+0) size),?_,.inr ⟨u.next,r,rfl,.inr rfl,by rw[AW.next_lay];omega,.inl q3,by rw[AW.next_lay];omega,by rw[hbk,if_pos rfl],by rw[List.length_append,q6,hlen,Nat.add_mul,Nat.one_mul],fun y hy=>?_,fun j hj=>?_⟩,⟨fun i hi=>?_,fun i hi=>?_⟩,by rw[AW.next_lay],
    fun j hj=>by rw[hbk,if_neg (by omega)],fun j hj hS=>?_,wle _ fun j hj=>by rw[hbk,if_neg (by omega)]⟩
   . unfold append
     simp only[h,h2,cond,aNew,hnew,hle,hold,AW.grow,hfull,q5,hsz0,hszz,hstr]
   . rcases List.mem_append.mp hy with q|q
     . exact q8 y q
     . exact h1 y q
   · rw [hfm,if_pos rfl]at hj
     simp only[members]at hj
     rcases List.mem_cons.mp hj with q|q
     . subst q
       exact⟨.inr rfl,by rw[AW.next_lay];omega,_,_,by rw[hbk,if_pos rfl],by rw[List.length_append,q6,hlen,Nat.add_mul];omega⟩
     . obtain⟨c1,c2,c,e',c3,c4⟩:=q7 j q
       exact⟨.inl c1,by rw[AW.next_lay];omega,c,e',by rw[hbk,if_neg (by omega)];exact c3,by rw[Nat.add_mul];omega⟩
   . rw[AW.next_lay]at hi
     rw[hbk,if_neg (by omega)];exact f1.1 i (by omega)
   . rw[AW.next_lay]at hi
     rw[hfm,if_neg (by omega)];exact f1.2 i (by omega)
   . rw[hfm,if_neg (fun q=>hS (by subst q;exact q3))]
end Go.Sim
