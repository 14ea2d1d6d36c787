/- Footprints: what a callee changes; maps from texts to places. -/
import Derived.Test.YtnbfkakjdifcpaaGreatSh
import Derived.Test.YtnbfkakjdifcpaaGreatNc
set_option linter.unusedVariables false
set_option linter.unusedSimpArgs false
namespace Go.Sim
open Go Go.RowKit
structure MutS (S:Nat->Prop) (w w':AW):Prop where
 blk:∀ i,i < w.next->¬ S i->w'.blk i=w.blk i
 fam:∀ i,i < w.next->¬ S i->w'.family i=w.family i
 next:w.next≤w'.next
 fresh:Fresh w'
theorem MutS.refl {S:Nat->Prop} {w:AW} (f:Fresh w):MutS S w w:=⟨fun _ _ _=>rfl,fun _ _ _=>rfl,Nat.le_refl _,f⟩
def Within (S:Nat->Prop) (w:AW) (S':Nat->Prop):Prop:=∀ j,S' j->S j \/ w.next≤j
theorem Within.refl (S:Nat->Prop) (w:AW):Within S w S:=fun _ h=>.inl h
theorem MutS.trans {S S':Nat->Prop} {u v w:AW} (h:MutS S u v) (k:MutS S' v w) (hs:Within S u S'):MutS S u w :=
 ⟨fun i hi hn=>(k.blk i (by have:=h.next;omega) (fun q=>(hs i q).elim hn (by omega))).trans (h.blk i hi hn),fun i hi hn=>(k.fam i (by have:=h.next;omega) (fun q=>(hs i q).elim hn (by omega))).trans (h.fam i hi hn),Nat.le_trans h.next k.next,k.fresh⟩
theorem MutS.of {S:Nat->Prop} {w w':AW} (g:Grown w w'):MutS S w w':=⟨fun i hi _=>g.1.blk i hi,fun i hi _=>g.1.fam i hi,g.1.next,g.2⟩
theorem MutS.keep {S:Nat->Prop} {B:Nat} {w w':AW} (h:MutS S w w') (hB:∀ j,S j->B≤j) (hn:B≤w.next):Keep B w w' :=
 ⟨fun i hi=>h.blk i (by omega) (fun q=>by have:=hB i q;omega),fun i hi=>h.fam i (by omega) (fun q=>by have:=hB i q;omega),h.next⟩
theorem MutS.own {S:Nat->Prop} {w w':AW} {c:Nat} {e:TypeId} {l:List Value} (h:MutS S w w') (k:Own w c e l) (hn:¬ S c):Own w' c e l :=
 ⟨by rw[h.blk c k.lt hn];exact k.blk,by rw[h.fam c k.lt hn];exact k.fam,by have:=h.next;have:=k.lt;omega⟩
theorem AOwnS.other {S T:Nat->Prop} {w w':AW} {e:TypeId} {size n:Nat} {v:Value} {cells:List Value} (h:AOwnS S w e size v n cells) (k:MutS T w w') (hd:∀ j,S j->¬ T j):AOwnS S w' e size v n cells:=by
 rcases h with h|⟨b,r,a1,a2,a3,a4,a5,a6,a7,a9,a8⟩
 . exact .inl h
 . have hn:=k.next
   refine .inr ⟨b,r,a1,a2,by omega,a4,by omega,by rw[k.blk b a3 (hd b a2)];exact a6,a7,a9,fun j hj=>?_⟩
   rw[k.fam r a5 (hd r a4)]at hj
   obtain⟨c1,c2,c,e',c3,c4⟩:=a8 j hj
   exact⟨c1,by omega,c,e',by rw[k.blk j c2 (hd j c1)];exact c3,c4⟩
theorem aownS_store {S:Nat->Prop} {w:AW} {e:TypeId} {z n:Nat} {v:Value} {cells:List Value} (h:AOwnS S w e z v n cells) (f:Fresh w) (hz:1≤z) {o:Nat} (ho:o < cells.length) {x:Value} (hx:oneCell x=true) :
    ∃ b,v=.slice (some ⟨b,0,none⟩) n n/\S b/\∃ w',storeV w false 1 (.pointer (some ⟨b,o,none⟩)) x=some w'/\AOwnS S w' e z v n (setL cells o x)/\MutS S w w'/\w'.next=w.next/\(∀ c e l,Own w c e l->Own w' c e l):=by
 rcases h with ⟨_,_,rfl⟩|⟨b,r,rfl,a2,a3,a4,a5,a6,a7,a9,a8⟩
 . simp at ho
 have hgo:getL cells o=some cells[o]:=by rw[getL_eq];simp[ho]
 have hcond:(oneCell x && Nat.beq 1 1)=true:=by rw[hx];rfl
 refine⟨b,rfl,a2,strikes b (0+o) (w.family r) (w.put b (.cells (setL cells o x) e r 0 z)),?_,?_,?_,?_,?_⟩
 . have hst:w.store ⟨b,o,none⟩ x=some (strikes b (0+o) (w.family r) (w.put b (.cells (setL cells o x) e r 0 z))):=by simp only[AW.store,hx,a6,hgo]
   simp only[storeV,hcond]
   exact hst
 all_goals
  obtain⟨s1,_,_,s4,s5⟩:=strikes_all b (0+o) (w.family r) (w.put b (.cells (setL cells o x) e r 0 z))
  have hput:∀ j,(w.put b (.cells (setL cells o x) e r 0 z)).blk j=if j=b then some (.cells (setL cells o x) e r 0 z) else w.blk j:=fun j=>AW.blk_put _ _ _ _ (Trie.in_ _) (Trie.in_ _)
  have hsm:∀ i c e' r' z',(w.put b (.cells (setL cells o x) e r 0 z)).blk i=some (.cells c e' r' 0 z')->∃ c',(strikes b (0+o) (w.family r) (w.put b (.cells (setL cells o x) e r 0 z))).blk i=some (.cells c' e' r' 0 z')/\c'.length=c.length/\(i=b->c'=c):=fun i c e' r' z' hq=>strikes_same (me:=b) (cls:=0+o) (w.family r) hq
  have hfm:∀ j,(strikes b (0+o) (w.family r) (w.put b (.cells (setL cells o x) e r 0 z))).family j=w.family j:=fun j=>by rw[s4,AW.family_put]
  have hnx:(strikes b (0+o) (w.family r) (w.put b (.cells (setL cells o x) e r 0 z))).next=w.next:=by rw[s5,AW.next_put]
  have hmem:∀ j,¬ j ∈ w.family r->j ≠ b->(strikes b (0+o) (w.family r) (w.put b (.cells (setL cells o x) e r 0 z))).blk j=w.blk j:=fun j h1 h2=>by rw[s1 j h1,hput,if_neg h2]
  have hfr:∀ j ∈ w.family r,j ∈ members (w.family r) r:=fun j hj=>by
   cases q:w.family r with
   | nil=>rw[q]at hj;cases hj
   | cons y ys=>rw[q]at hj;exact hj
  generalize strikes b (0+o) (w.family r) (w.put b (.cells (setL cells o x) e r 0 z))=u at *
 · obtain ⟨c1,h1,h2,h3⟩:=hsm b _ e r z (by rw[hput,if_pos rfl])
   obtain rfl:=h3 rfl
   refine .inr ⟨b,r,rfl,a2,by omega,a4,by omega,h1,by rw[h2,setL_eq,List.length_set];exact a7,fun y hy=>?_,fun j hj=>?_⟩
   . rw[setL_eq]at hy
     rcases List.mem_or_eq_of_mem_set hy with q|q
     . exact a9 y q
     . rw[q];exact hx
   · rw [hfm]at hj
     obtain⟨q1,q2,c,e',q3,q4⟩:=a8 j hj
     by_cases hjb:j=b
     . subst hjb
       exact⟨q1,by omega,_,_,h1,by rw[h2,setL_eq,List.length_set];omega⟩
     . obtain⟨c2,k1,k2,_⟩:=hsm j c e' r z (by rw[hput,if_neg hjb];exact q3)
       exact⟨q1,by omega,c2,e',k1,by omega⟩
 · refine ⟨fun i hi hS=>hmem i (fun q=>hS (a8 i (hfr i q)).1) (fun q=>hS (by rw[q];exact a2)),fun i _ _=>hfm i,by omega,⟨fun i hi=>?_,fun i hi=>?_⟩⟩
   . rw[hnx]at hi
     rw[hmem i (fun q=>by have:=(a8 i (hfr i q)).2.1;omega) (by omega)];exact f.1 i hi
   . rw[hnx]at hi
     rw[hfm];exact f.2 i hi
 . exact hnx
 · intro c e' l hO
   have hcb:c ≠ b:=by
    rintro rfl
    have:=hO.blk
    rw[a6]at this
    injection this with this
    injection this with _ _ _ _ z
    omega
   have hcf:¬ c ∈ w.family r:=fun q=>by
    obtain⟨_,_,c1,e1,q3,_⟩:=a8 c (hfr c q)
    rw[hO.blk]at q3
    injection q3 with q3
    injection q3 with _ _ _ _ z
    omega
   exact⟨by rw[hmem c hcf hcb];exact hO.blk,by rw[hfm];exact hO.fam,by have:=hO.lt;omega⟩
theorem MutS.put {S:Nat->Prop} {w:AW} {b:Nat} (f:Fresh w) (hb:S b) (hlt:b < w.next) (k:Blk):MutS S w (w.put b k) :=
 ⟨fun i _ hn=>by rw[AW.blk_put _ _ _ _ (Trie.in_ _) (Trie.in_ _),if_neg (by rintro rfl;exact hn hb)],fun i _ _=>AW.family_put _ _ _ _,by rw[AW.next_put];exact Nat.le_refl _,f.put hlt k⟩
theorem MutS.put_same {S:Nat->Prop} {w:AW} {b:Nat} {e:TypeId} {c:List Value} (f:Fresh w) (h:Own w b e c):MutS S w (w.put b (.cells c e b 0 0)) :=
 ⟨fun i _ _=>by
   rw[AW.blk_put _ _ _ _ (Trie.in_ _) (Trie.in_ _)]
   split
   . rename_i q;rw[q,h.blk]
   . rfl,fun i _ _=>AW.family_put _ _ _ _,by rw[AW.next_put];exact Nat.le_refl _,f.put h.lt _⟩
theorem MutS.mono {S S':Nat->Prop} {u v:AW} (h:MutS S u v) (k:∀ j,S j->S' j):MutS S' u v :=
 ⟨fun i hi hn=>h.blk i hi fun q=>hn (k i q),fun i hi hn=>h.fam i hi fun q=>hn (k i q),h.next,h.fresh⟩
end Go.Sim
