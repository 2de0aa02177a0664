import Derived.RangeFuncCalls
import Derived.Test.YtcdbcliaepcpfaaGreatDoorAft
import Derived.Test.YtcdbcliaepcpfaaGreatDoorTail
namespace Go.Proofs.YtcdbcliaepcpfaaGreatDoor
set_option maxRecDepth 100000
open Go.RowKit
section
variable {n lp:Nat}{P:Program}{ops:Array Oper}{md:Region.Mode}{C:World->Prop}
def yM (ops:Array Oper):Bool:=ops.all λo=>match o.op with| .defer _=>false|_=>true
theorem EL (h:yM ops=true){i:Nat}{o:Oper}(d:ops[i]?=some o)(ρ:Operand->Value):Oper.semAt (some lp) ρ o=execOp ρ o:=by
 refine Oper.semAt_some lp ρ o (λc a=>?_);obtain⟨b,rfl⟩:=Array.getElem?_eq_some_iff.1 d;have:=Array.all_eq_true.1 h i b;rw[a]at this;cases this
theorem CQ {o:Oper}{a:Act}{K:Act->Prop}{l:Act->World->Prop}{Q':Exit->Act->World->Prop}{w:World}(t:Oper.semAt (some lp) a.eval o=execOp a.eval o)(k:C w)(h:∀a w',C w'->K a->l a w')(s:o.quiet P a C K):
 o.wpIn (Fence.wide.inRound lp) n P a w l Q':=by
 obtain⟨v,m,i⟩:=s;have b:=m w k;unfold Oper.quietAt at b;refine⟨λ_ _=>trivial,?_⟩;have j:Oper.semAt (Fence.wide.inRound lp).round a.eval o=execOp a.eval o:=t;rw[j];generalize(execOp a.eval o).run P w=r at*;cases r with
 |ok x w'=>
  cases x<;>simp only[Oper.quietUpon]at b<;>simp only[Oper.uponIn]
  case value u=>
   obtain⟨c,g⟩:=b;rw[c,g];exact h _ _ k i
  case skip=>
   obtain⟨c,g⟩:=b;rw[c,←g];exact h _ _ k i
  case enter f args=>
   obtain⟨c,p⟩:=b;rw[c];exact⟨(λh=>by cases h),CallsIn.inRound lp (cw.2 (p.mono λe w'' ⟨q,d⟩=>by subst q;exact h _ _ d i))⟩
 |halt x w'=>simp only[Oper.quietUpon]at b
theorem CT {i:Nat}{a:Act}{K:Act->Prop}{f:Act->World->Prop}{Q':Exit->Act->World->Prop}{w:World}(g:yM ops=true)(d:C w)(h:∀a w',C w'->K a->f a w')(b:qOp P ops C i K a):wpOpIn (Fence.wide.inRound lp) n P ops Q' i f a w:=by
 unfold qOp at b;unfold wpOpIn;split;·rename_i c;simp only[c]at b;exact h _ _ d b
 ·rename_i o c;simp only[c]at b;split;·rename_i e;simp only[e,if_true]at b;exact CQ (EL g c a.eval) d h b
  ·rename_i e;simp only[e]at b;exact⟨λ_ _=>trivial,h _ _ d b⟩
theorem nJ {Q:Act->Prop}{Q':Exit->Act->World->Prop}(f:yM ops=true)(e:∀a w,C w->Q a->Q' .normal a w):
 ∀(b:Nat) (c:Array Bool) (a:Act) (w:World),C w->wpAnyQ P md ops C Q b c a->wpAnyIn (Fence.wide.inRound lp) n P md ops Q' b c a w
 |0,_,_,_,hC,h=>⟨h.1,e _ _ hC h.2⟩
 |b+1,_,_,_,hC,h=>⟨λj=>e _ _ hC (h.1 j),λi k=>CT f hC (λg w' d h'=>nJ f e b _ g w' d h') (h.2 i k)⟩
theorem pJ {id:Nat} {Q:Exit->Act->World->Prop} {a:Act} {w:World} {l:List Oper} (f:P.follows .mixedOrders=true) (c:Region.lexB .any l.toArray=true) (e:yM l.toArray=true)
 (h:wpQuiet P l.toArray (λw'=>∃s:cO w,w'=s.w) (λb=>∀w',(∃s:cO w,w'=s.w)->Q .normal b w') l a):(Code.region id l.toArray true).wpIn (Fence.wide.inRound lp) n P Q a w:=by
 simp only[Region.lexB,bat]at c;refine wpIn_region_any f (nJ (C:=λw'=>∃s:cO w,w'=s.w) (Q:=λb=>∀w',(∃s:cO w,w'=s.w)->Q .normal b w') e (λ_ w' d h=>h w' d) _ _ _ _ ⟨⟨w.drew,(br _ _).drew⟩,rfl⟩ ?_);have:=wpAnyQ_lex (C:=λw'=>∃s:cO w,w'=s.w) (md:=.any) c.1 l.toArray.toList 0 (Array.replicate l.toArray.size false) a (by simp) (by simpa using c.2) (by simpa using h);simpa using this
end
section
variable {n lp:Nat}{P:Program}{ops:Array Oper}{md:Region.Mode}{C:World->Prop}
theorem xU {o:Oper}{a:Act}{K:Act->Prop}{l:Act->World->Prop}{Q':Exit->Act->World->Prop}{w:World}(k:C w)(h:∀a w',C w'->K a->l a w')(s:o.quiet P a C K):
 o.wpIn Fence.wide n P a w l Q':=by
 obtain⟨v,m,i⟩:=s;have b:=m w k;unfold Oper.quietAt at b;refine⟨λ_ _=>trivial,?_⟩;have j:Oper.semAt Fence.wide.round a.eval o=execOp a.eval o:=rfl;rw[j];generalize(execOp a.eval o).run P w=r at*;cases r with
 |ok x w'=>
  cases x<;>simp only[Oper.quietUpon]at b<;>simp only[Oper.uponIn]
  case value u=>
   obtain⟨c,g⟩:=b;rw[c,g];exact h _ _ k i
  case skip=>
   obtain⟨c,g⟩:=b;rw[c,←g];exact h _ _ k i
  case enter f args=>
   obtain⟨c,p⟩:=b;rw[c];exact⟨(λh=>by cases h),cw.2 (p.mono λe w'' ⟨q,d⟩=>by subst q;exact h _ _ d i)⟩
 |halt x w'=>simp only[Oper.quietUpon]at b
theorem xX {i:Nat}{a:Act}{K:Act->Prop}{f:Act->World->Prop}{Q':Exit->Act->World->Prop}{w:World}(c:C w)(h:∀a w',C w'->K a->f a w')(b:qOp P ops C i K a):wpOpIn Fence.wide n P ops Q' i f a w:=by
 unfold qOp at b;unfold wpOpIn;split;·rename_i d;simp only[d]at b;exact h _ _ c b
 ·rename_i o d;simp only[d]at b;split;·rename_i e;simp only[e,if_true]at b;exact xU c h b
  ·rename_i e;simp only[e]at b;exact⟨λ_ _=>trivial,h _ _ c b⟩
def uV (P:Program)(md:Region.Mode)(ops:Array Oper)(C:World->Prop)(m:Nat)(L:Array Bool->Act->Prop):Nat->Array Bool->Act->Prop
 |0,listed,a=>L listed a
 |f+1,listed,a=>Region.ready md ops listed≠[]/\∀i∈Region.ready md ops listed,i<m/\qOp P ops C i (uV P md ops C m L f (listed.setIfInBounds i true)) a
theorem nC {m g:Nat}{L:Array Bool->Act->Prop}{Q':Exit->Act->World->Prop}(d:∀b a w,C w->L b a->wpAnyIn Fence.wide n P md ops Q' g b a w):
 ∀(f:Nat) (b:Array Bool) (a:Act) (w:World),C w->uV P md ops C m L f b a->wpAnyIn Fence.wide n P md ops Q' (f+g) b a w
 |0,b,a,w,hC,h=>by rw[Nat.zero_add];exact d _ _ _ hC h
 |f+1,b,a,w,hC,h=>by
  rw[show f+1+g=(f+g)+1 by omega];exact⟨λj=>absurd j h.1,λi k=>xX hC (λe w' c h'=>nC d f _ e w' c h') (h.2 i k).2⟩
theorem B7 {m i:Nat}{z:Oper}{v:Value}{L:Array Bool->Act->Prop}(M:ops[i]?=some z)(t:∀(j:Nat)(o:Oper) A b,ops[j]?=some o->o.op≠.select A b)
 (T:Region.sinkB md ops m=true)(R:Region.chainB md ops m=true)(S:m<ops.size)(D:i<m)(u:∀c a,L c a->∀j∈Region.ready md ops c,m<=j):
 ∀(f:Nat) (c:Array Bool) (a:Act),HeadInv md ops m c->
  (∀j y,ops[j]?=some y->j≠i->c.getD j true=false->(∀e∈y.after,Region.binds md e=true->e.on≠i)->z.apart ops y=true)->
  i∈Region.ready md ops c->YieldsIn P ops C z v a->uV P md ops C m L f (c.setIfInBounds i true) (a.put z.dst v)->uV P md ops C m L (f+1) c a:=by
 intro f;induction f with
 |zero=>
  intro c a q _ s J H;have g:=(mem_ready.1 s).1;refine⟨λh=>(by rw[h]at s;cases s),λj w=>?_⟩;have p:j<m:=Nat.lt_of_not_le λh=>absurd w (tail_waits T R S q _ i rfl D g j h);refine⟨p,?_⟩;by_cases d:j=i;·subst d;exact J.qOp M H
  ·have:=u _ _ H j (ready_mono w d);omega
 |succ f ih=>
  intro c a q l s J H;have g:=(mem_ready.1 s).1;refine⟨λh=>(by rw[h]at s;cases s),λj w=>?_⟩;have p:j<m:=Nat.lt_of_not_le λh=>absurd w (tail_waits T R S q _ i rfl D g j h);refine⟨p,?_⟩;by_cases d:j=i;·subst d;exact J.qOp M H
  ·have I:=(H.2 j (ready_mono w d)).2;obtain⟨r,y,x,B⟩:=mem_ready.1 w
   have F:∀e∈y.after,Region.binds md e=true->e.on≠i:=λe X W K=>by
    have I:=B e X W;rw[K,getD_both g]at I;cases I
   have V:=qOp_put x (l j y x d r F) (λA b=>t i z A b M) (λA b=>t j y A b x) J I
   have n:∀k G,ops[k]?=some G->k≠i->(c.setIfInBounds j true).getD k true=false->
    (∀e∈G.after,Region.binds md e=true->e.on≠i)->z.apart ops G=true:=λk G Y N g O=>by
    refine l k G Y N ?_ O;by_cases E:j=k;·subst E;exact r
    ·rw[getD_set_ne true E]at g;exact g
   refine qOp_mono (λU Q=>ih (c.setIfInBounds j true) U (q.set w p) n (ready_mono s (Ne.symm d)) Q.1 ?_) V;rw[Array.setIfInBounds_comm _ _ d];exact Q.2
theorem xJ {m g:Nat}{n:Act->Prop}(d:Region.noSelect ops=true)(u:Region.sinkB md ops m=true)(s:Region.chainB md ops m=true)(t:m<ops.size):
 ∀(l:List Oper) (k:Nat) (b:Array Bool) (a:Act),(∀j,j<l.length->l[j]?=ops[k+j]?)->k+l.length=m->HeadInv md ops m b->
 Region.lexHead md ops g l.length k b=true->wpQuiet P ops C n l a->uV P md ops C m (λc r=>Region.seqB md ops g m c=true/\n r) l.length b a
 |[],k,b,a,_,hk,_,hB,h=>by
  have:k=m:=by simpa using hk
  subst this;exact⟨by simpa[Region.lexHead]using hB,h⟩
 |o::l,k,b,a,hl,hk,inv,hB,h=>by
  have i:ops[k]?=some o:=by simpa using(hl 0 (by simp)).symm
  simp only[llc,Region.lexHead,bat]at hB;obtain⟨⟨z,y⟩,p⟩:=hB;have e:k<m:=by simp only[llc]at hk;omega
  have f:k∈Region.ready md ops b:=by simpa using z
  have q:qOp P ops C k (wpQuiet P ops C n l) a:=by unfold qOp;simp only[i];exact h
  obtain⟨v,A,w⟩:=yieldsIn_of_qOp i q
  exact B7 i (Region.noSelect_spec d) u s t e (λc r x=>seqB_ready x.1) l.length b a inv (Region.free_spec i y) f A
   (xJ d u s t l (k+1) _ _ (λj hj=>by have:=hl (j+1) (by simp;omega);simpa[Nat.add_assoc,Nat.add_comm 1 j]using this) (by simp only[llc]at hk;omega) (inv.set f e) p w)
theorem lR {id:Nat} {Q:Exit->Act->World->Prop} {a:Act} {w:World} {l:List Oper} (m:Nat) (z:P.follows .mixedOrders=true) (p:Region.lexTailB .any l.toArray m=true)
 (h:wpQuiet P l.toArray (λw'=>∃s:cO w,w'=s.w) (λk=>∀w',(∃s:cO w,w'=s.w)->wpListIn Fence.wide n P l.toArray Q (l.drop m) k w') (l.take m) a):(Code.region id l.toArray true).wpIn Fence.wide n P Q a w:=by
 simp only[Region.lexTailB,bat,dte]at p;obtain⟨⟨⟨⟨f,v⟩,A⟩,y⟩,e⟩:=p;have hn':m<l.length:=by simpa using v
 have b:(l.take m).length=m:=by simp;omega
 have d:(l.drop m).length=l.toArray.size-m:=by simp
 have i:HeadInv .any l.toArray m (Array.replicate l.toArray.size false):=
  ⟨by simp,λj oj _ u=>(by rw[getD_replicate_false]at u;cases u),λt _ B=>getD_in (by simpa using B) (getD_replicate_false _ _)⟩
 have H:=xJ (md:=.any) (g:=l.toArray.size-m) f A y v (l.take m) 0 _ a (λj r=>by
  have o:j<m:=by rw[b]at r;exact r
  simp[o]) (by simpa using b) i (by rw[b];exact e) h
 refine wpIn_region_any z ?_
 have:=nC (n:=n) (Q':=Q) (g:=l.toArray.size-m) (λc k w' x q=>by
  have:=mV (n:=n) (P:=P) (md:=.any) (Q':=Q) (l.drop m) m c k w' (λj=>by simp[List.getElem?_drop]) (by rw[d];exact q.1) (q.2 w' x);rwa[d]at this) _ _ _ w.drew ⟨⟨w.drew,(br _ _).drew⟩,rfl⟩ H
 rw[b,show m+(l.toArray.size-m)=l.toArray.size by omega]at this;exact this
end
end Go.Proofs.YtcdbcliaepcpfaaGreatDoor
