/- Footprints: what a callee changes; maps from texts to places. -/
import Derived.Test.YtnbfkakjdifcpaaGreatSh
import Derived.Test.YtnbfkakjdifcpaaGreatNc
set_option linter.unusedVariables false
set_option linter.unusedSimpArgs false
namespace Go.Sim
open Go Go.RowKit
structure MutS (S:Nat->Prop) (w w':AW):Prop where
 blk:∀ i,i < w.next->¬ S i->w'.blk i=w.blk i
 fam:∀ i,i < w.next->¬ S i->w'.family i=w.family i
 next:w.next≤w'.next
 fresh:Fresh w'
theorem MutS.refl {S:Nat->Prop} {w:AW} (f:Fresh w):MutS S w w:=⟨fun _ _ _=>rfl,fun _ _ _=>rfl,Nat.le_refl _,f⟩
def Within (S:Nat->Prop) (w:AW) (S':Nat->Prop):Prop:=∀ j,S' j->S j \/ w.next≤j
theorem Within.refl (S:Nat->Prop) (w:AW):Within S w S:=fun _ h=>.inl h
theorem MutS.trans {S S':Nat->Prop} {u v w:AW} (h:MutS S u v) (k:MutS S' v w) (hs:Within S u S'):MutS S u w :=
 ⟨fun i hi hn=>(k.blk i (by have:=h.next;omega) (fun q=>(hs i q).elim hn (by omega))).trans (h.blk i hi hn),fun i hi hn=>(k.fam i (by have:=h.next;omega) (fun q=>(hs i q).elim hn (by omega))).trans (h.fam i hi hn),Nat.le_trans h.next k.next,k.fresh⟩
theorem MutS.of {S:Nat->Prop} {w w':AW} (g:Grown w w'):MutS S w w':=⟨fun i hi _=>g.1.blk i hi,fun i hi _=>g.1.fam i hi,g.1.next,g.2⟩
theorem MutS.keep {S:Nat->Prop} {B:Nat} {w w':AW} (h:MutS S w w') (hB:∀ j,S j->B≤j) (hn:B≤w.next):Keep B w w' :=
 ⟨fun i hi=>h.blk i (by omega) (fun q=>by have:=hB i q;omega),fun i hi=>h.fam i (by omega) (fun q=>by have:=hB i q;omega),h.next⟩
theorem MutS.own {S:Nat->Prop} {w w':AW} {c:Nat} {e:TypeId} {l:List Value} (h:MutS S w w') (k:Own w c e l) (hn:¬ S c):Own w' c e l :=
 ⟨by rw[h.blk c k.lt hn];exact k.blk,by rw[h.fam c k.lt hn];exact k.fam,by have:=h.next;have:=k.lt;omega⟩
theorem MutS.put {S:Nat->Prop} {w:AW} {b:Nat} (f:Fresh w) (hb:S b) (hlt:b < w.next) (k:Blk):MutS S w (w.put b k) :=
 ⟨fun i _ hn=>by rw[AW.blk_put _ _ _ _ (Trie.in_ _) (Trie.in_ _),if_neg (by rintro rfl;exact hn hb)],fun i _ _=>AW.family_put _ _ _ _,by rw[AW.next_put];exact Nat.le_refl _,f.put hlt k⟩
theorem MutS.mono {S S':Nat->Prop} {u v:AW} (h:MutS S u v) (k:∀ j,S j->S' j):MutS S' u v :=
 ⟨fun i hi hn=>h.blk i hi fun q=>hn (k i q),fun i hi hn=>h.fam i hi fun q=>hn (k i q),h.next,h.fresh⟩
end Go.Sim
