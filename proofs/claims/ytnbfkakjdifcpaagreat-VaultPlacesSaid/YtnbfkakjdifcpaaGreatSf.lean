/- Footprints: what a callee changes; maps from texts to places. -/
import Derived.Test.YtnbfkakjdifcpaaGreatSh
import Derived.Test.YtnbfkakjdifcpaaGreatNc
set_option linter.unusedVariables false
set_option linter.unusedSimpArgs false
namespace Go.Sim
open Go Go.RowKit
structure MutS (S:Nat→Prop) (w w':AW):Prop where
  blk:∀ i,i < w.next→¬ S i→w'.blk i=w.blk i
  fam:∀ i,i < w.next→¬ S i→w'.family i=w.family i
  next:w.next≤w'.next
  fresh:Fresh w'
theorem MutS.refl {S:Nat→Prop} {w:AW} (f:Fresh w):MutS S w w:=⟨fun _ _ _=>rfl,fun _ _ _=>rfl,Nat.le_refl _,f⟩
def Within (S:Nat→Prop) (w:AW) (S':Nat→Prop):Prop:=∀ j,S' j→S j ∨ w.next≤j
theorem Within.refl (S:Nat→Prop) (w:AW):Within S w S:=fun _ h=>.inl h
theorem Within.trans {S S' S'':Nat→Prop} {w w':AW} (h:Within S w S') (k:Within S' w' S'') (hn:w.next≤w'.next):Within S w S'':=fun j hj=>by
  rcases k j hj with q|q
  · exact h j q
  · exact .inr (by omega)
theorem MutS.trans {S S':Nat→Prop} {u v w:AW} (h:MutS S u v) (k:MutS S' v w) (hs:Within S u S'):MutS S u w :=
  ⟨fun i hi hn=>(k.blk i (by have:=h.next;omega) (fun q=>(hs i q).elim hn (by omega))).trans (h.blk i hi hn),fun i hi hn=>(k.fam i (by have:=h.next;omega) (fun q=>(hs i q).elim hn (by omega))).trans (h.fam i hi hn),Nat.le_trans h.next k.next,k.fresh⟩
theorem MutS.of {S:Nat→Prop} {w w':AW} (g:Grown w w'):MutS S w w':=⟨fun i hi _=>g.1.blk i hi,fun i hi _=>g.1.fam i hi,g.1.next,g.2⟩
theorem MutS.keep {S:Nat→Prop} {B:Nat} {w w':AW} (h:MutS S w w') (hB:∀ j,S j→B≤j) (hn:B≤w.next):Keep B w w' :=
  ⟨fun i hi=>h.blk i (by omega) (fun q=>by have:=hB i q;omega),fun i hi=>h.fam i (by omega) (fun q=>by have:=hB i q;omega),h.next⟩
theorem MutS.own {S:Nat→Prop} {w w':AW} {c:Nat} {e:TypeId} {l:List Value} (h:MutS S w w') (k:Own w c e l) (hn:¬ S c):Own w' c e l :=
  ⟨by rw [h.blk c k.lt hn];exact k.blk,by rw [h.fam c k.lt hn];exact k.fam,by have:=h.next;have:=k.lt;omega⟩
theorem AOwnS.mono {S S':Nat→Prop} {w:AW} {e:TypeId} {size n:Nat} {v:Value} {cells:List Value} (h:AOwnS S w e size v n cells) (k:∀ j,S j→S' j):AOwnS S' w e size v n cells:=by
  rcases h with h|⟨b,r,a1,a2,a3,a4,a5,a6,a7,a9,a8⟩
  · exact .inl h
  · exact .inr ⟨b,r,a1,k b a2,a3,k r a4,a5,a6,a7,a9,fun j hj=>let ⟨c1,c2⟩:=a8 j hj;⟨k j c1,c2⟩⟩
theorem AOwnS.other {S T:Nat→Prop} {w w':AW} {e:TypeId} {size n:Nat} {v:Value} {cells:List Value} (h:AOwnS S w e size v n cells) (k:MutS T w w') (hd:∀ j,S j→¬ T j):AOwnS S w' e size v n cells:=by
  rcases h with h|⟨b,r,a1,a2,a3,a4,a5,a6,a7,a9,a8⟩
  · exact .inl h
  · have hn:=k.next
    refine .inr ⟨b,r,a1,a2,by omega,a4,by omega,by rw [k.blk b a3 (hd b a2)];exact a6,a7,a9,fun j hj=>?_⟩
    rw [k.fam r a5 (hd r a4)] at hj
    obtain ⟨c1,c2,c,e',c3,c4⟩:=a8 j hj
    exact ⟨c1,by omega,c,e',by rw [k.blk j c2 (hd j c1)];exact c3,c4⟩
theorem AOwnS.cells {α:Type} {S:Nat→Prop} {w:AW} {e:TypeId} {z:Nat} {enc:α→List Value} {v:Value} {L:List α} (h:AOwnS S w e z v L.length (L.flatMap enc)) (hz:∀ x,(enc x).length=z) (h0:1≤L.length):∃ b,v=.slice (some ⟨b,0,none⟩) L.length L.length∧S b∧b < w.next∧(∀ (i:Nat) (y:Value),(L.flatMap enc)[i]? = some y→w.cell? ⟨b,i,none⟩=some y):=by
  rcases h with ⟨_,h,_⟩|⟨b,r,rfl,a2,a3,a4,a5,a6,a7,a9,a8⟩
  · omega
  · exact ⟨b,rfl,a2,a3,fun i y hy=>by simp only [AW.cell?,a6,getL_eq,hy,a9 _ (List.mem_of_getElem? hy)]⟩
def plc (ks:List ByteArray) (k:ByteArray):Nat:=ks.findIdx fun x=>sEq k x
theorem findNow_places (k:ByteArray):∀ (es:List MapEntry) (ks:List ByteArray) (vs:List Value) (i:Nat),es.map (·.key)=ks.map Value.string→es.map (·.val)=vs →
    (k ∈ ks→∃ v,vs[plc ks k]? = some v∧Instr.findNow .string (.string k) es i=some (some (i+plc ks k,v)))∧(¬ k ∈ ks→Instr.findNow .string (.string k) es i=some none)
  | [],[],_,i,_,_=>⟨fun h=>by simp at h,fun _=>rfl⟩
  | [],_ :: _,_,_,h,_=>by simp at h
  | _ :: _,[],_,_,h,_=>by simp at h
  | e :: es,x :: ks,vs,i,h,hv=>by
    simp only [List.map_cons,List.cons.injEq] at h
    subst hv
    obtain ⟨ih1,ih2⟩:=findNow_places k es ks _ (i+1) h.2 rfl
    have he:Instr.sameNow .string (.string k) e.key=some (k == x):=by rw [h.1];rfl
    by_cases q:k=x
    · have hb:(k == x)=true:=by rw [beq_sEq];exact (sEq_iff _ _).2 q
      have hs:sEq k x=true:=(sEq_iff _ _).2 q
      rw [hb] at he
      have hp:plc (x :: ks) k=0:=by simp [plc,List.findIdx_cons,hs]
      refine ⟨fun _=>⟨e.val,by rw [hp];rfl,?_⟩,fun hn=>absurd (by rw [q];exact List.mem_cons_self) hn⟩
      rw [hp]
      simp only [Instr.findNow,he];rfl
    · have hs:sEq k x=false:=by rw [← Bool.not_eq_true,sEq_iff];exact q
      have hb:(k == x)=false:=by rw [beq_sEq];exact hs
      rw [hb] at he
      have hp:plc (x :: ks) k=plc ks k+1:=by simp [plc,List.findIdx_cons,hs]
      refine ⟨fun hm=>?_,fun hn=>?_⟩
      · obtain ⟨v,h1,h2⟩:=ih1 (by rcases List.mem_cons.mp hm with a|a;exact absurd a q;exact a)
        refine ⟨v,by rw [hp];exact h1,?_⟩
        rw [hp,show i+(plc ks k+1)=i+1+plc ks k from by omega]
        simp only [Instr.findNow,he,h2]
      · simp only [Instr.findNow,he]
        exact ih2 fun hm=>hn (List.mem_cons_of_mem _ hm)
structure MapN (w:AW) (r:Nat) (ks:List ByteArray):Prop where
  blk:∃ es clock,w.blk r=some (.map es clock)∧es.toList.map (·.key)=ks.map Value.string∧es.toList.map (·.val)=(List.range ks.length).map fun i:Nat=>Value.int .i64 (i:Int)
  lt:r < w.next
theorem MapN.new (w:AW):MapN (w.push (.map #[] 0)) w.next []:=⟨⟨_,_,blk_push_top _ _,rfl,rfl⟩,by rw [AW.next_push];omega⟩
theorem MapN.other {S:Nat→Prop} {w w':AW} {r:Nat} {ks:List ByteArray} (h:MapN w r ks) (k:MutS S w w') (hn:¬ S r):MapN w' r ks:=by
  obtain ⟨⟨es,c,h1,h2⟩,h4⟩:=h
  exact ⟨⟨es,c,by rw [k.blk r h4 hn];exact h1,h2⟩,by have:=k.next;omega⟩
theorem plc_lt {ks:List ByteArray} {k:ByteArray} (h:k ∈ ks):plc ks k < ks.length:=by
  rw [plc,List.findIdx_lt_length]
  exact ⟨k,h,(sEq_iff _ _).2 rfl⟩
theorem MapN.lookup {w:AW} {r:Nat} {ks:List ByteArray} (h:MapN w r ks) (k:ByteArray):lookupV w .string (.int .i64 0) (.map (some r)) (.string k) true=some (.tuple #[.int .i64 (if hasB ks k=true then (plc ks k:Int) else 0),.bool (hasB ks k)]):=by
  obtain ⟨⟨es,c,h1,h2,h3⟩,h4⟩:=h
  obtain ⟨f1,f2⟩:=findNow_places k es.toList ks _ 0 h2 h3
  unfold lookupV
  by_cases q:k ∈ ks
  · obtain ⟨v,hv,hj⟩:=f1 q
    have hlt:=plc_lt q
    rw [List.getElem?_map,List.getElem?_range hlt] at hv
    simp only [Option.map_some,Option.some.injEq] at hv
    subst hv
    simp only [simpleKey,h1,hj,(hasB_iff ks k).2 q,if_true]
  · have hq:hasB ks k=false:=by rw [← Bool.not_eq_true,hasB_iff];exact q
    simp only [simpleKey,h1,f2 q,hq]
    rfl
theorem MapN.add {g:Prg} {ty kt e:TypeId} {a1 a2:Bool} {n1 b1 n2 b2:Nat} {z1 z2:Value} (ht:g.ty ty=some ⟨a1,.map kt e,n1,b1,z1⟩) (hk:g.ty kt=some ⟨a2,.string,n2,b2,z2⟩) {w:AW} {r:Nat} {ks:List ByteArray} (h:MapN w r ks) (k:ByteArray) (hn:¬ k ∈ ks) :
    ∃ b,updateV g w ty (.map (some r)) (.string k) (.int .i64 (ks.length:Int))=some (w.put r b)∧MapN (w.put r b) r (ks++[k]):=by
  obtain ⟨⟨es,c,h1,h2,h3⟩,h4⟩:=h
  obtain ⟨f1,f2⟩:=findNow_places k es.toList ks _ 0 h2 h3
  refine ⟨.map (es.push { key:=.string k,val:=.int .i64 (ks.length:Int),born:=c }) (c+1),?_,⟨_,_,by rw [AW.blk_put _ _ _ _ (Trie.in_ _) (Trie.in_ _),if_pos rfl],?_,?_⟩,by rw [AW.next_put];exact h4⟩
  · unfold updateV
    simp only [ht,hk,h1,simpleKey,f2 hn]
  · simp [h2]
  · simp [h3,List.range_succ]
theorem MutS.put {S:Nat→Prop} {w:AW} {b:Nat} (f:Fresh w) (hb:S b) (hlt:b < w.next) (k:Blk):MutS S w (w.put b k) :=
  ⟨fun i _ hn=>by rw [AW.blk_put _ _ _ _ (Trie.in_ _) (Trie.in_ _),if_neg (by rintro rfl;exact hn hb)],fun i _ _=>AW.family_put _ _ _ _,by rw [AW.next_put];exact Nat.le_refl _,f.put hlt k⟩
theorem MutS.put_same {S:Nat→Prop} {w:AW} {b:Nat} {e:TypeId} {c:List Value} (f:Fresh w) (h:Own w b e c):MutS S w (w.put b (.cells c e b 0 0)) :=
  ⟨fun i _ _=>by
    rw [AW.blk_put _ _ _ _ (Trie.in_ _) (Trie.in_ _)]
    split
    · rename_i q;rw [q,h.blk]
    · rfl,fun i _ _=>AW.family_put _ _ _ _,by rw [AW.next_put];exact Nat.le_refl _,f.put h.lt _⟩
theorem MutS.mono {S S':Nat→Prop} {u v:AW} (h:MutS S u v) (k:∀ j,S j→S' j):MutS S' u v :=
  ⟨fun i hi hn=>h.blk i hi fun q=>hn (k i q),fun i hi hn=>h.fam i hi fun q=>hn (k i q),h.next,h.fresh⟩
end Go.Sim
