/- Regions whose order is open, that store more than once. -/
import Derived.Test.YtnbfkakjdifcpaaGreatNc
set_option linter.unusedVariables false
set_option linter.unusedSimpArgs false
namespace Go.Sim
open Go Go.RowKit
structure XOp where
 s:SOp
 i:Nat
 msk:Nat
 eff:Bool
 look:Option (TypeId × Operand)
structure LookS where
 i:Nat
 ty:TypeId
 a:Value
 w:AW
 hard:Bool:=false
def pureOp:Op->Bool
 | .move _|.assign _|.pick ..|.fieldAddr ..|.indexAddr ..|.binOp ..|.unOp ..|.nilCheck _|.extract ..=>true
 | _=>false
def loadOp:Op->Option (TypeId × Operand)
 | .load ty a=>some (ty,a)
 | _=>none
theorem pure_quiet {g:Prg} {t:Tmps} {w w':AW} {o:Oper} (h:pureOp o.op=true):quiet g t w o=quiet g t w' o:=by
 have e:fast g t w o.op=fast g t w' o.op:=by
  unfold pureOp at h
  split at h <;> rename_i ho <;> first|(simp only[fast];done)|(simp only[ho,fast];done)|(simp only[ho,fast];rfl)|(cases h)
 unfold quiet
 rw[e]
def xlook (x:Option (TypeId × Operand)) (h:Nat) (i:Nat) (t:Tmps) (w:AW) (L:List LookS):List LookS :=
 match x with
 | some (ty,a)=>⟨i,ty,ev t a,w,false⟩ :: L
 | none=>match h with
  | 0=>L
  | _+1=>⟨i,0,undef,w,true⟩ :: L
def xQuiets (ops:Array Oper):List Nat->Option (List XOp)
 | []=>some []
 | i :: l=>match ops[i]?,xQuiets ops l with
  | some o,some r=>match kind o.op with
   | .quiet=>match pureOp o.op || (loadOp o.op).isSome with
    | true=>some (⟨⟨bare o,guardOf ops o,false⟩,i,0,false,loadOp o.op⟩ :: r)
    | false=>some (⟨⟨bare o,guardOf ops o,false⟩,i,1,false,none⟩ :: r)
   | .makes=>some (⟨⟨bare o,guardOf ops o,false⟩,i,0,false,none⟩ :: r)
   | .effect=>none
  | _,_=>none
def xPhases (ops:Array Oper) (before:Array Nat):List Phase->Nat->List Nat->Option (List XOp)
 | [],_,_=>some []
 | ph :: l, mask,seen =>
  match xQuiets ops ph.quiets with
  | none=>none
  | some qs =>
   match ph.effect with
   | none=>match xPhases ops before l mask (seen++ph.quiets) with
    | some r=>some (qs++r)
    | none=>none
   | some i =>
    match ops[i]? with
    | none=>none
    | some o =>
     match ((seen++ph.quiets).all fun j=>(before.getD i 0).testBit j || !mask.testBit j) && isEffect o with
     | false=>none
     | true=>match xPhases ops before l (before.getD i 0) (seen++ph.quiets) with
      | some r=>some (qs++⟨⟨bare o,guardOf ops o,false⟩,i,before.getD i 0,true,none⟩ :: r)
      | none=>none
def LooksOk (g:Prg) (mk:Nat) (w':AW):List LookS->Prop
 | []=>True
 | x :: l=>(mk.testBit x.i=true \/ match x.hard with|false=>∀ inf,g.ty x.ty=some inf->loadV w' inf.agg inf.size x.a=loadV x.w inf.agg inf.size x.a|true=>False)/\LooksOk g mk w' l
theorem LooksOk.at {g:Prg} {mk:Nat} {w':AW}:∀ {L:List LookS},LooksOk g mk w' L->∀ x ∈ L,mk.testBit x.i=true \/ match x.hard with|false=>∀ inf,g.ty x.ty=some inf->loadV w' inf.agg inf.size x.a=loadV x.w inf.agg inf.size x.a|true=>False
 | y :: l,h,x,hx=>by
  rcases List.mem_cons.mp hx with e|e
  . subst e;exact h.1
  . exact LooksOk.at h.2 x e
section
variable (P:Program) (told:ToldF)
def SeqZT:List XOp->List LookS->Tmps->AW->(Tmps->AW->Prop)->Prop
 | [],_,t,w,Q=>Q t w
 | x :: l,L,t,w,Q=>match wantedS x.s.g t with
  | true=>match x.eff with
   | false=>StepT P told true false x.s.o t w fun t' w'=>SeqZT l (xlook x.look x.msk x.i t w L) t' w' Q
   | true=>EffT P told x.s.o t w fun t' w'=>LooksOk (prg P) x.msk w' L/\SeqZT l L t' w' Q
  | false=>SeqZT l L (putTmp t x.s.o.dst undef) w Q
def Stays (A B:Prop) (_:Tok (A,B)):Prop:=A/\B
def SeqZR:(l:List XOp)->(L:List LookS)->(t:Tmps)->(w:AW)->(Q:Tmps->AW->Prop)->Tok (l,L,t,w,Q)->Prop
 | [],_,t,w,Q,_=>Q t w
 | ⟨⟨o,g,_⟩,i,h,false,lk⟩ :: l,L,t,w,Q,_=>Wants (wantedS g t) (StepR P told true false o t w (fun t' w'=>SeqZR l (xlook lk h i t w L) t' w' Q .mk) .mk) (SeqZR l L (putTmp t o.dst undef) w Q .mk) .mk
 | ⟨⟨o,g,_⟩,_,mk,true,_⟩ :: l,L,t,w,Q,_=>Wants (wantedS g t) (StepR P told true false o t w (fun t' w'=>Stays (LooksOk (prg P) mk w' L) (SeqZR l L t' w' Q .mk) .mk) .mk) (SeqZR l L (putTmp t o.dst undef) w Q .mk) .mk
variable {P told}
theorem seqZR_nil {L:List LookS} {t:Tmps} {w:AW} {Q:Tmps->AW->Prop} {x:Tok (([]:List XOp),L,t,w,Q)}:SeqZR P told [] L t w Q x=Q t w:=by unfold SeqZR;rfl
theorem seqZR_q {o:Oper} {g:Option (Option Tmp × Bool)} {tie:Bool} {i mk:Nat} {lk:Option (TypeId × Operand)} {l:List XOp} {L:List LookS} {t:Tmps} {w:AW} {Q:Tmps->AW->Prop} {x:Tok ((⟨⟨o,g,tie⟩,i,mk,false,lk⟩:XOp) :: l,L,t,w,Q)} :
    SeqZR P told (⟨⟨o,g,tie⟩,i,mk,false,lk⟩ :: l) L t w Q x=Wants (wantedS g t) (StepR P told true false o t w (fun t' w'=>SeqZR P told l (xlook lk mk i t w L) t' w' Q .mk) .mk) (SeqZR P told l L (putTmp t o.dst undef) w Q .mk) .mk:=by rw[SeqZR]
theorem seqZR_e {o:Oper} {g:Option (Option Tmp × Bool)} {tie:Bool} {i mk:Nat} {lk:Option (TypeId × Operand)} {l:List XOp} {L:List LookS} {t:Tmps} {w:AW} {Q:Tmps->AW->Prop} {x:Tok ((⟨⟨o,g,tie⟩,i,mk,true,lk⟩:XOp) :: l,L,t,w,Q)} :
    SeqZR P told (⟨⟨o,g,tie⟩,i,mk,true,lk⟩ :: l) L t w Q x=Wants (wantedS g t) (StepR P told true false o t w (fun t' w'=>Stays (LooksOk (prg P) mk w' L) (SeqZR P told l L t' w' Q .mk) .mk) .mk) (SeqZR P told l L (putTmp t o.dst undef) w Q .mk) .mk:=by rw[SeqZR]
attribute [go_sem] seqZR_nil seqZR_q seqZR_e
def XKinds (l:List XOp):Prop:=∀ x ∈ l,(x.eff=false->kind x.s.o.op ≠ .effect)/\(x.eff=true->kind x.s.o.op=.effect)
theorem seqZR_seqZT:∀ {l:List XOp} {L:List LookS} {t:Tmps} {w:AW} {Q:Tmps->AW->Prop} {x:Tok (l,L,t,w,Q)},XKinds l->SeqZR P told l L t w Q x->SeqZT P told l L t w Q
 | [],L,t,w,Q,_,_,h=>by rw[seqZR_nil]at h;exact h
 | ⟨⟨o, g,tie⟩,i,mk,eff,lk⟩ :: l,L,t,w,Q,_,hk,h=>by
  have hk':XKinds l:=fun x hx=>hk x (List.mem_cons_of_mem _ hx)
  have hko:=hk _ List.mem_cons_self
  simp only at hko
  simp only[SeqZT]
  cases eff with
  | false =>
   rw[seqZR_q]at h
   cases hw:wantedS g t with
   | false=>rw[hw]at h;exact seqZR_seqZT hk' h
   | true =>
    rw[hw]at h
    have h:StepR P told true false o t w (fun t' w'=>SeqZR P told l (xlook lk mk i t w L) t' w' Q .mk) .mk:=h
    exact (stepR_stepT h).mono fun t' w' q=>seqZR_seqZT hk' q
  | true =>
   rw[seqZR_e]at h
   cases hw:wantedS g t with
   | false=>rw[hw]at h;exact seqZR_seqZT hk' h
   | true =>
    rw[hw]at h
    have h:StepR P told true false o t w (fun t' w'=>Stays (LooksOk (prg P) mk w' L) (SeqZR P told l L t' w' Q .mk) .mk) .mk:=h
    unfold StepR at h
    rw[hko.2 rfl]at h
    exact (effR_effT h).mono fun t' w' q=>⟨q.2.1,seqZR_seqZT hk' q.2.2⟩
def SeenL (g:Prg) (mask:Nat) (w:AW) (L:List LookS) (seen:List Seen):Prop :=
 ∀ s ∈ seen,(mask.testBit s.i=true \/ Holds g w s)/\same 12 s.v s.v=true/\(pureOp s.o.op=true \/ ∃ x ∈ L,x.i=s.i/\(x.hard=true \/ (x.hard=false/\∃ a,s.o.op=.load x.ty a/\x.a=ev s.t a/\quiet g s.t x.w s.o=some s.v)))
theorem SeenL.ok {g:Prg} {mask:Nat} {w:AW} {L:List LookS} {seen:List Seen} (h:SeenL g mask w L seen):SeenOk g mask w seen:=fun s hs=>(h s hs).1
theorem SeenL.le {g:Prg} {mask:Nat} {w w':AW} {L:List LookS} {seen:List Seen} (h:SeenL g mask w L seen) (k:WLe w w'):SeenL g mask w' L seen :=
 fun s hs=>⟨(h s hs).1.imp id fun q=>q.le k,(h s hs).2⟩
theorem quietsX_ok (ops:Array Oper) (mask:Nat):∀ (is:List Nat) {qs rest:List XOp} {L:List LookS} {t:Tmps} {w:AW} {seen:List Seen} {Q:Tmps->AW->Prop},xQuiets ops is=some qs->SeenL (prg P) mask w L seen ->
    SeqZT P told (qs++rest) L t w Q ->
    ∃ t' seen' L' w',aquiets (prg P) ops is t seen w=.ok t' seen' w'/\SeenL (prg P) mask w' L' seen'/\(∀ s ∈ seen',s ∈ seen \/ s.i ∈ is)/\SeqZT P told rest L' t' w' Q/\(∀ s ∈ seen,s ∈ seen')
 | [],qs,rest,L,t,w,seen,Q,hq,hs,h=>by
  simp only[xQuiets,Option.some.injEq]at hq
  subst hq
  exact⟨t,seen,L,w,rfl,hs,fun s h=>.inl h,h,fun _ h=>h⟩
 | i :: l, qs, rest,L,t,w,seen,Q,hq,hs,h=>by
  simp only[xQuiets]at hq
  split at hq
  case h_2=>cases hq
  rename_i o r ho hr
  split at hq
  case h_3=>cases hq
  · rename_i hkk
    obtain ⟨hd,lk,hq',hlk⟩:∃ (hd:Nat) (lk:Option (TypeId × Operand)),some (⟨⟨bare o,guardOf ops o,false⟩,i,hd,false,lk⟩ :: r)=some qs/\((pureOp o.op || (loadOp o.op).isSome)=true/\lk=loadOp o.op \/ hd=1/\lk=none):=by
     split at hq
     . rename_i hpl
       exact⟨_,_,hq,.inl ⟨hpl,rfl⟩⟩
     . exact⟨_,_,hq,.inr ⟨rfl,rfl⟩⟩
    clear hq
    injection hq' with hq
    subst hq
    simp only[List.cons_append,SeqZT,wantedS_eq]at h
    simp only[aquiets,ho]
    cases hw:wantedA ops o t with
    | false =>
     rw[hw]at h
     obtain⟨t',seen',L',w',a1,a2,a4,a5,a6⟩:=quietsX_ok ops mask l hr hs h
     exact⟨t',seen',L',w',a1,a2,fun s q=>(a4 s q).imp id (List.mem_cons_of_mem _),a5,a6⟩
    | true =>
     rw[hw]at h
     simp only[StepT]at h
     have hk:kind (bare o).op=kind o.op:=rfl
     rw[hk,hkk]at h
     obtain⟨v,h1,h0,h2⟩:=h
     have h0:=h0 trivial
     have h1':quiet (prg P) t w o=some v:=h1
     simp only[hkk,h1']
     have hs' : SeenL (prg P) mask w (xlook lk hd i t w L) (⟨i,o,t,v⟩ :: seen):=fun s q=>by
      rcases List.mem_cons.mp q with e|e
      · subst e
        refine⟨.inr ⟨h1',h0⟩,h0,?_⟩
        rcases hlk with ⟨hpl,rfl⟩|⟨rfl,rfl⟩
        · cases hp:pureOp o.op with
          | true=>exact .inl rfl
          | false =>
           rw[hp,Bool.false_or]at hpl
           refine .inr ?_
           unfold loadOp at hpl ⊢
           split at hpl
           . rename_i ty a hoo
             rw[hoo]
             exact⟨⟨i,ty,ev t a,w,false⟩,List.mem_cons_self,rfl,.inr ⟨rfl,a,rfl,rfl,h1'⟩⟩
           . cases hpl
        . exact .inr ⟨⟨i,0,undef,w,true⟩,List.mem_cons_self,rfl,.inl rfl⟩
      · obtain ⟨b1,b2,b3⟩:=hs s e
        refine⟨b1,b2,b3.imp id ?_⟩
        rintro ⟨x,hx,hr⟩
        refine⟨x,?_,hr⟩
        unfold xlook
        split
        . exact List.mem_cons_of_mem _ hx
        . split
          . exact hx
          . exact List.mem_cons_of_mem _ hx
     obtain⟨t',seen',L',w',a1,a2,a4,a5,a6⟩:=quietsX_ok ops mask l hr hs' h2
     refine⟨t',seen',L',w',a1,a2,fun s q=>?_,a5,fun s q=>a6 s (List.mem_cons_of_mem _ q)⟩
     rcases a4 s q with e|e
     . rcases List.mem_cons.mp e with e|e
       . subst e;exact .inr List.mem_cons_self
       . exact .inl e
     . exact .inr (List.mem_cons_of_mem _ e)
  · rename_i hkk
    injection hq with hq
    subst hq
    simp only[List.cons_append,SeqZT,wantedS_eq]at h
    simp only[aquiets,ho]
    cases hw:wantedA ops o t with
    | false =>
     rw[hw]at h
     obtain⟨t',seen',L',w',a1,a2,a4,a5,a6⟩:=quietsX_ok ops mask l hr hs h
     exact⟨t',seen',L',w',a1,a2,fun s q=>(a4 s q).imp id (List.mem_cons_of_mem _),a5,a6⟩
    | true =>
     rw[hw]at h
     simp only[StepT]at h
     have hk:kind (bare o).op=kind o.op:=rfl
     rw[hk,hkk]at h
     obtain⟨c,e,f,h1,h0,h2⟩:=h
     have h1':makes (prg P) t o.op=some (c,e,f):=h1
     have hfull:w.full=false:=rfl
     simp only[hkk,hfull,h1']
     have hle:=(h0 trivial).le (.cells c e w.next 0 0)
     obtain⟨t',seen',L',w',a1,a2,a4,a5,a6⟩:=quietsX_ok ops mask l hr (hs.le hle) h2
     exact⟨t',seen',L',w',a1,a2,fun s q=>(a4 s q).imp id (List.mem_cons_of_mem _),a5,a6⟩
theorem phasesZ_ok (ops:Array Oper) (before:Array Nat):∀ (l:List Phase) {mask:Nat} {idx:List Nat} {ss:List XOp} {L:List LookS} {t:Tmps} {w:AW} {seen:List Seen} {Q:Tmps->AW->Prop},
    xPhases ops before l mask idx=some ss->SeenL (prg P) mask w L seen->(∀ s ∈ seen,s.i ∈ idx)->SeqZT P told ss L t w Q->PhasesT P told ops before l mask t seen w Q
 | [],mask,idx,ss,L,t,w,seen,Q,hp,hs,hi,h=>by
  simp only[xPhases,Option.some.injEq]at hp
  subst hp
  exact⟨0,t,w,fun _ _ _ _=>rfl,h⟩
 | ph :: l, mask, idx,ss,L,t,w,seen,Q,hp,hs,hi,h=>by
  simp only[xPhases]at hp
  split at hp
  case h_1=>cases hp
  rename_i qs hqs
  split at hp
  · rename_i heff
    split at hp
    case h_2=>cases hp
    rename_i r hr
    injection hp with hp;subst hp
    obtain⟨t',seen',L',w',a1,a2,a4,a5,a6⟩:=quietsX_ok ops mask ph.quiets hqs hs h
    have hi':∀ s ∈ seen',s.i ∈ idx++ph.quiets:=fun s q=>by
     rcases a4 s q with e|e
     . exact List.mem_append_left _ (hi s e)
     . exact List.mem_append_right _ e
    obtain⟨N,t2,w2,b1,b2⟩:=phasesZ_ok ops before l hr a2 hi' a5
    refine⟨N,t2,w2,fun F n hF hn=>?_,b2⟩
    have look1:looksAgain (prg P) mask w' seen=true:=looks_of fun s q=>a2.ok s (a6 s q)
    have look2:looksAgain (prg P) mask w' seen'=true:=looks_of a2.ok
    cases hnb:Nat.beq w'.next w.next <;> simp only[aphases,a1,hnb,look1,look2,heff] <;> exact b1 F n hF hn
  · rename_i i heff
    split at hp
    case h_1=>cases hp
    rename_i o ho
    split at hp
    case h_1=>cases hp
    rename_i hall
    simp only[Bool.and_eq_true]at hall
    obtain⟨hall,hke⟩:=hall
    split at hp
    case h_2=>cases hp
    rename_i r hr
    injection hp with hp;subst hp
    obtain⟨t',seen',L',w',a1,a2,a4,a5,a6⟩:=quietsX_ok ops mask ph.quiets hqs hs h
    have hi':∀ s ∈ seen',s.i ∈ idx++ph.quiets:=fun s q=>by
     rcases a4 s q with e|e
     . exact List.mem_append_left _ (hi s e)
     . exact List.mem_append_right _ e
    have look1:looksAgain (prg P) mask w' seen=true:=looks_of fun s q=>a2.ok s (a6 s q)
    have look2:looksAgain (prg P) mask w' seen'=true:=looks_of a2.ok
    simp only[SeqZT,wantedS_eq]at a5
    have go_on : ∀ w2,(w2=w' \/ LooksOk (prg P) (before.getD i 0) w2 L')->SeenL (prg P) (before.getD i 0) w2 L' seen':=by
     intro w2 hle s q
     obtain⟨c1,c2,c3⟩:=a2 s q
     refine⟨?_,c2,c3⟩
     cases hb:(before.getD i 0).testBit s.i with
     | true=>exact .inl rfl
     | false =>
      refine .inr ?_
      have hx:=hi' s q
      have hm:=List.all_eq_true.mp hall s.i hx
      rw[hb]at hm
      have hold:Holds (prg P) w' s:=by
       rcases c1 with e|e
       . rw[e]at hm;cases hm
       . exact e
      rcases hle with rfl|hle
      . exact hold
      rcases c3 with c3|⟨x,hxL,hxi,hxh|⟨hxh,a,hop,hxa,hxq⟩⟩
      . exact⟨(pure_quiet c3).symm.trans hold.1,c2⟩
      . have z:=hle.at x hxL
        rw[hxh]at z
        rcases z with z|z
        . rw[hxi,hb]at z;cases z
        . exact z.elim
      · have z := hle.at x hxL
        rw[hxh]at z
        rcases z with z|z
        . rw[hxi,hb]at z;cases z
        · refine ⟨?_,c2⟩
          have hty:quiet (prg P) s.t w2 s.o=quiet (prg P) s.t x.w s.o:=by
           have e:fast (prg P) s.t w2 s.o.op=fast (prg P) s.t x.w s.o.op:=by
            rw[hop]
            simp only[fast]
            cases hg:(prg P).ty x.ty with
            | none=>rfl
            | some inf =>
             have:=z inf hg
             rw[hxa]at this
             exact this
           unfold quiet
           rw[e]
          rw[hty];exact hxq
    cases hw:wantedA ops o t' with
    | false =>
     rw[hw]at a5
     obtain⟨N,t2,w2,b1,b2⟩:=phasesZ_ok ops before l hr (go_on w' (.inl rfl)) hi' a5
     refine⟨N,t2,w2,fun F n hF hn=>?_,b2⟩
     cases hnb:Nat.beq w'.next w.next <;> simp only[aphases,a1,hnb,look1,look2,heff,aeffect,ho,hw] <;> exact b1 F n hF hn
    | true =>
     rw[hw]at a5
     obtain⟨N,t2,w2,e1,e2,e3⟩:=a5
     have e1:∀ F n,N≤F->N≤n->effect (prg P) (acall (prg P) told F n) o t' w'=.ok t2 w2:=e1
     obtain⟨N2,t3,w3,b1,b2⟩:=phasesZ_ok ops before l hr (go_on w2 (.inr e2)) hi' e3
     refine⟨N+N2,t3,w3,fun F n hF hn=>?_,b2⟩
     cases hnb:Nat.beq w'.next w.next <;> simp only[aphases,a1,hnb,look1,look2,heff,aeffect,ho,hw,e1 F n (by omega) (by omega)] <;> exact b1 F n (by omega) (by omega)
def xkinds (l:List XOp):Bool:=l.all fun x=>match x.eff,kind x.s.o.op with|false,.quiet=>true|false,.makes=>true|true,.effect=>true|_,_=>false
theorem xkinds_ok {l:List XOp} (h:xkinds l=true):XKinds l:=fun x hx=>by
 have:=List.all_eq_true.mp h x hx
 revert this
 cases x.eff <;> cases kind x.s.o.op <;> simp
def regionAt (i:Nat):Code->Array Oper
 | .region id ops _=>if id=i then ops else #[]
 | .seq a b=>match regionAt i a with|⟨[]⟩=>regionAt i b|r=>r
 | .cond _ a b=>match regionAt i a with|⟨[]⟩=>regionAt i b|r=>r
 | .block _ b=>regionAt i b
 | .loop b=>regionAt i b
 | .scope b=>regionAt i b
 | _=>#[]
def xRegion (ops:Array Oper):Option (List XOp):=match hasDefer ops.toList,planOf ops with
 | false,some p=>xPhases ops p.before p.phases 0 []
 | _,_=>none
theorem codeT_regX {env:Env} {ops:Array Oper} {id:Nat} {l:List XOp} {t:Tmps} {ds:List DI} {w:AW} {Q:Post} (hl:xRegion ops=some l) (hk:xkinds l=true) (h:SeqZR P told l [] t w (fun t' w'=>Q .normal t' ds w') .mk):CodeT P told env (.region id ops true) t ds w Q:=by
 unfold xRegion at hl
 split at hl
 case h_2=>cases hl
 rename_i p hdf hp
 obtain⟨N,t',w',a,b⟩:=phasesZ_ok (P:=P) (told:=told) ops p.before p.phases (seen:=[]) hl (fun s q=>by cases q) (fun s q=>by cases q) (seqZR_seqZT (xkinds_ok hk) h)
 refine codeT_region hdf ⟨N,t',w',fun F n hF hn=>?_,b⟩
 obtain⟨ph,bf⟩:=p
 simp only[aregion,hp]
 rw[a F n hF hn];rfl
def sOfX (ids:List Nat):Code->SC
 | .region id ops draw=>match ids.contains id with
  | true=>.raw (.region id ops draw)
  | false=>sOf (.region id ops draw)
 | .seq a b=>.seq (sOfX ids a) (sOfX ids b)
 | .cond c a b=>.cond c (sOfX ids a) (sOfX ids b)
 | .block id b=>.block id (sOfX ids b)
 | .loop b=>.loop (sOfX ids b)
 | .scope b=>sOfX ids b
 | c=>sOf c
theorem codeZ_codeT {env:Env} (ids:List Nat):∀ (c:Code) {t:Tmps} {ds:List DI} {w:AW} {Q:Post} {x:Tok (sOfX ids c,t,ds,w,Q)},CodeR P told env (sOfX ids c) t ds w Q x->CodeT P told env c t ds w Q:=by
 intro c
 induction c with
 | skip=>intro t ds w Q x h;exact codeR_codeT _ h
 | label=>intro t ds w Q x h;exact codeR_codeT _ h
 | region id ops draw =>
  intro t ds w Q x h
  have key:∀ s,sOfX ids (.region id ops draw)=s->∀ y:Tok (s,t,ds,w,Q),CodeR P told env s t ds w Q y->CodeR P told env s t ds w Q .mk:=fun s _ y q=>by cases y;exact q
  have h2:=key _ rfl x h
  clear key h
  revert h2
  simp only[sOfX]
  cases ids.contains id with
  | true=>exact fun h=>h
  | false=>exact fun h=>codeR_codeT _ h
 | seq a b iha ihb =>
  intro t ds w Q x h
  refine codeT_seq ((iha h).mono ?_)
  intro e t' ds' w' q
  cases e with
  | normal=>exact ihb q
  | exit id=>exact q
  | ret=>exact q
  | pan v=>exact q
 | cond c a b iha ihb =>
  intro t ds w Q x h
  obtain⟨z,hx,h1,h2⟩:=h
  refine codeT_cond hx ?_
  cases z with
  | true=>exact iha (h1 rfl)
  | false=>exact ihb (h2 rfl)
 | block id b ih =>
  intro t ds w Q x h
  refine codeT_block ((ih h).mono ?_)
  intro e t' ds' w' q
  cases e with
  | normal=>exact q
  | ret=>exact q
  | pan v=>exact q
  | exit i =>
   simp only
   simp only[blockQ]at q
   cases hb:Nat.beq i id with
   | true=>rw[hb]at q;exact q
   | false=>rw[hb]at q;exact q
 | loop b ih =>
  intro t ds w Q x h
  obtain⟨I,k,h1,h2⟩:=h
  refine codeT_loop I (fun k t ds w hI=>(ih (h2 k t ds w hI)).mono ?_) k t ds w h1
  intro e t' ds' w' q
  cases e with
  | normal=>exact q
  | exit id=>exact q
  | ret=>exact q
  | pan v=>exact q
 | scope b ih=>intro t ds w Q x h;exact codeT_scope (ih h)
 | exit id=>intro t ds w Q x h;exact codeR_codeT _ h
 | ret=>intro t ds w Q x h;exact codeR_codeT _ h
 | goto l=>intro t ds w Q x h;exact h
 | refuse y=>intro t ds w Q x h;exact h
 | rangeFunc f ps a b iha ihb=>intro t ds w Q x h;exact h
theorem callT_codeX {f:FuncId} {captured args:Array Value} {w:AW} {Q:Value->AW->Prop} {fn:Func} {s:SC} (ids:List Nat) (htold:told f (args++captured) w=none) (hf:P.funcs[f]? = some fn) (hlt:Nat.blt f 16777215=true) (hs:fn.body.map (sOfX ids)=some s)
    (hn:Nat.ble (args++captured).size fn.ntmps=true)
    (h:CodeR P told { fn:=f,round:=none } s (fillFrom 0 (args++captured).toList .leaf) [] w (fun e t ds w'=>Left (P:=P) fn.results.toList e t ds w' Q) .mk):CallT P told (.fn (.func f) captured) args w Q:=by
 obtain⟨c,hc,rfl⟩:=Option.map_eq_some_iff.mp hs
 exact callT_enter htold hf hlt hc hn (codeZ_codeT ids c h)
end
end Go.Sim
