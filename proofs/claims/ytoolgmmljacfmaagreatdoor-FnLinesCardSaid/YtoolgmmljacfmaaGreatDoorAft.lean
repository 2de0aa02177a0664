import Derived.RangeFuncCalls
import Derived.Test.YtoolgmmljacfmaaGreatDoorTail
set_option maxRecDepth 100000
open List renaming length → ln
open Go.RowKit
namespace Go.Proofs.YtoolgmmljacfmaaGreatDoor
variable {P:Program}{n:Array Va}{W:Wd}{v:Va}{id:Nat}{Q:Exit → Act → Wd → Prop}{a:Act}{l:List Oper}
structure cV (W:World) where
 w:World
 h:aG W w
theorem cV.call {f:FuncId}(s:cV W)
 (h:Calls P f n s.w λe w'=>e=rt v/\Below s.w.heap.size s.w w'):Calls P f n s.w λe a=>e=rt v/\∃d:cV W,a=d.w:=
 h.mono λ_ w' ⟨c,b⟩=>⟨c,⟨w',aE s.h b⟩,rfl⟩
theorem cV.same {f:FuncId}(s:cV W)
 (h:Calls P f n s.w λe w'=>e=rt v/\w'=s.w):Calls P f n s.w λe a=>e=rt v/\∃d:cV W,a=d.w:=
 h.mono λ_ _ ⟨c,b⟩=>⟨c,s,b⟩
theorem aY (d:P.follows .mixedOrders=true) (c:Region.lexB .any l.toArray=true)
 (h:wpQuiet P l.toArray (λw'=>∃s:cV W,w'=s.w) (λb=>∀w',(∃s:cV W,w'=s.w)->Q .normal b w') l a):(Code.region id l.toArray true).wp P Q a W:=
 wp_region_quiet (C:=λw'=>∃s:cV W,w'=s.w) d c ⟨⟨W.drew,(br _ _).drew⟩,rfl⟩ (by simpa using h)
theorem cV.cell {a:Addr}(h:W.cell? a=some v)(s:cV W):s.w.cell? a=some v:=ctq s.h h
section
variable {n lp:Nat}{P:Program}{ops:Array Oper}{md:Region.Mode}{C:World->Prop}
def zN (ops:Array Oper):Bool:=ops.all λo=>match o.op with| .defer _=>false|_=>true
theorem JB (h:zN ops=true){i:Nat}{o:Oper}(d:ops[i]?=some o)(ρ:Operand->Va):Oper.semAt (some lp) ρ o=execOp ρ o:=by
 refine Oper.semAt_some lp ρ o (λc a=>?_);obtain⟨b,rfl⟩:=Array.getElem?_eq_some_iff.1 d;have:=Array.all_eq_true.1 h i b;rw[a]at this;cases this
theorem D9 {o:Oper}{a:Act}{K:Act->Prop}{l:Act->Wd->Prop}{Q':Exit->Act->Wd->Prop}{w:Wd}(t:Oper.semAt (some lp) a.eval o=execOp a.eval o)(k:C w)(h:∀a w',C w'->K a->l a w')(s:o.quiet P a C K):
 o.wpIn (Fence.wide.inRound lp) n P a w l Q':=by
 obtain⟨v,m,i⟩:=s;have b:=m w k;unfold Oper.quietAt at b;refine⟨λ_ _=>trivial,?_⟩;have j:Oper.semAt (Fence.wide.inRound lp).round a.eval o=execOp a.eval o:=t;rw[j];generalize(execOp a.eval o).run P w=r at*;cases r with
 |ok x w'=>
  cases x<;>simp only[Oper.quietUpon]at b<;>simp only[Oper.uponIn]
  case value u=>
   obtain⟨c,g⟩:=b;rw[c,g];exact h _ _ k i
  case skip=>
   obtain⟨c,g⟩:=b;rw[c,←g];exact h _ _ k i
  case enter f args=>
   obtain⟨c,p⟩:=b;rw[c];exact⟨(λh=>by cases h),CallsIn.inRound lp (cw.2 (p.mono λe w'' ⟨q,d⟩=>by subst q;exact h _ _ d i))⟩
 |halt x w'=>simp only[Oper.quietUpon]at b
theorem DS {i:Nat}{a:Act}{K:Act->Prop}{f:Act->Wd->Prop}{Q':Exit->Act->Wd->Prop}{w:Wd}(g:zN ops=true)(d:C w)(h:∀a w',C w'->K a->f a w')(b:qOp P ops C i K a):wpOpIn (Fence.wide.inRound lp) n P ops Q' i f a w:=by
 unfold qOp at b;unfold wpOpIn;split;·rename_i c;simp only[c]at b;exact h _ _ d b
 ·rename_i o c;simp only[c]at b;split;·rename_i e;simp only[e,if_true]at b;exact D9 (JB g c a.eval) d h b
  ·rename_i e;simp only[e]at b;exact⟨λ_ _=>trivial,h _ _ d b⟩
theorem oJ {Q:Act->Prop}{Q':Exit->Act->Wd->Prop}(f:zN ops=true)(e:∀a w,C w->Q a->Q' .normal a w):
 ∀(b:Nat) (c:Array Bool) (a:Act) (w:Wd),C w->wpAnyQ P md ops C Q b c a->wpAnyIn (Fence.wide.inRound lp) n P md ops Q' b c a w
 |0,_,_,_,hC,h=>⟨h.1,e _ _ hC h.2⟩
 |b+1,_,_,_,hC,h=>⟨λj=>e _ _ hC (h.1 j),λi k=>DS f hC (λg w' d h'=>oJ f e b _ g w' d h') (h.2 i k)⟩
theorem qV {id:Nat} {Q:Exit->Act->Wd->Prop} {a:Act} {w:Wd} {l:List Oper} (f:P.follows .mixedOrders=true) (c:Region.lexB .any l.toArray=true) (e:zN l.toArray=true)
 (h:wpQuiet P l.toArray (λw'=>∃s:cV w,w'=s.w) (λb=>∀w',(∃s:cV w,w'=s.w)->Q .normal b w') l a):(Code.region id l.toArray true).wpIn (Fence.wide.inRound lp) n P Q a w:=by
 simp only[Region.lexB,bat]at c;refine wpIn_region_any f (oJ (C:=λw'=>∃s:cV w,w'=s.w) (Q:=λb=>∀w',(∃s:cV w,w'=s.w)->Q .normal b w') e (λ_ w' d h=>h w' d) _ _ _ _ ⟨⟨w.drew,(br _ _).drew⟩,rfl⟩ ?_);have:=wpAnyQ_lex (C:=λw'=>∃s:cV w,w'=s.w) (md:=.any) c.1 l.toArray.toList 0 (Array.replicate l.toArray.size false) a sm (by simpa using c.2) (by simpa using h);simpa using this
end
section
variable {n lp:Nat}{P:Program}{ops:Array Oper}{md:Region.Mode}{C:World->Prop}
theorem zL {o:Oper}{a:Act}{K:Act->Prop}{l:Act->Wd->Prop}{Q':Exit->Act->Wd->Prop}{w:Wd}(k:C w)(h:∀a w',C w'->K a->l a w')(s:o.quiet P a C K):
 o.wpIn Fence.wide n P a w l Q':=by
 obtain⟨v,m,i⟩:=s;have b:=m w k;unfold Oper.quietAt at b;refine⟨λ_ _=>trivial,?_⟩;have j:Oper.semAt Fence.wide.round a.eval o=execOp a.eval o:=rfl;rw[j];generalize(execOp a.eval o).run P w=r at*;cases r with
 |ok x w'=>
  cases x<;>simp only[Oper.quietUpon]at b<;>simp only[Oper.uponIn]
  case value u=>
   obtain⟨c,g⟩:=b;rw[c,g];exact h _ _ k i
  case skip=>
   obtain⟨c,g⟩:=b;rw[c,←g];exact h _ _ k i
  case enter f args=>
   obtain⟨c,p⟩:=b;rw[c];exact⟨(λh=>by cases h),cw.2 (p.mono λe w'' ⟨q,d⟩=>by subst q;exact h _ _ d i)⟩
 |halt x w'=>simp only[Oper.quietUpon]at b
theorem zK {i:Nat}{a:Act}{K:Act->Prop}{f:Act->Wd->Prop}{Q':Exit->Act->Wd->Prop}{w:Wd}(c:C w)(h:∀a w',C w'->K a->f a w')(b:qOp P ops C i K a):wpOpIn Fence.wide n P ops Q' i f a w:=by
 unfold qOp at b;unfold wpOpIn;split;·rename_i d;simp only[d]at b;exact h _ _ c b
 ·rename_i o d;simp only[d]at b;split;·rename_i e;simp only[e,if_true]at b;exact zL c h b
  ·rename_i e;simp only[e]at b;exact⟨λ_ _=>trivial,h _ _ c b⟩
def wV (P:Program)(md:Region.Mode)(ops:Array Oper)(C:World->Prop)(m:Nat)(L:Array Bool->Act->Prop):Nat->Array Bool->Act->Prop
 |0,listed,a=>L listed a
 |f+1,listed,a=>Region.ready md ops listed≠[]/\∀i∈Region.ready md ops listed,i<m/\qOp P ops C i (wV P md ops C m L f (listed.setIfInBounds i true)) a
theorem nW {m g:Nat}{L:Array Bool->Act->Prop}{Q':Exit->Act->Wd->Prop}(d:∀b a w,C w->L b a->wpAnyIn Fence.wide n P md ops Q' g b a w):
 ∀(f:Nat) (b:Array Bool) (a:Act) (w:Wd),C w->wV P md ops C m L f b a->wpAnyIn Fence.wide n P md ops Q' (f+g) b a w
 |0,b,a,w,hC,h=>by rw[nza];exact d _ _ _ hC h
 |f+1,b,a,w,hC,h=>by
  rw[show f+1+g=(f+g)+1 by omega];exact⟨λj=>absurd j h.1,λi k=>zK hC (λe w' c h'=>nW d f _ e w' c h') (h.2 i k).2⟩
theorem DU {m i:Nat}{z:Oper}{v:Va}{L:Array Bool->Act->Prop}(O:ops[i]?=some z)(t:∀(j:Nat)(o:Oper) A b,ops[j]?=some o->o.op≠.select A b)
 (V:Region.sinkB md ops m=true)(T:Region.chainB md ops m=true)(U:m<ops.size)(D:i<m)(u:∀c a,L c a->∀j∈Region.ready md ops c,m<=j):
 ∀(f:Nat) (c:Array Bool) (a:Act),HeadInv md ops m c->
  (∀j y,ops[j]?=some y->j≠i->c.getD j true=false->(∀e∈y.after,Region.binds md e=true->e.on≠i)->z.apart ops y=true)->
  i∈Region.ready md ops c->YieldsIn P ops C z v a->wV P md ops C m L f (c.setIfInBounds i true) (a.put z.dst v)->wV P md ops C m L (f+1) c a:=by
 intro f;induction f with
 |zero=>
  intro c a q _ s M H;have g:=(mem_ready.1 s).1;refine⟨λh=>(by rw[h]at s;cases s),λj w=>?_⟩;have p:j<m:=Nat.lt_of_not_le λh=>absurd w (tail_waits V T U q _ i rfl D g j h);refine⟨p,?_⟩;by_cases d:j=i;·subst d;exact M.qOp O H
  ·have:=u _ _ H j (ready_mono w d);omega
 |succ f ih=>
  intro c a q l s M H;have g:=(mem_ready.1 s).1;refine⟨λh=>(by rw[h]at s;cases s),λj w=>?_⟩;have p:j<m:=Nat.lt_of_not_le λh=>absurd w (tail_waits V T U q _ i rfl D g j h);refine⟨p,?_⟩;by_cases d:j=i;·subst d;exact M.qOp O H
  ·have K:=(H.2 j (ready_mono w d)).2;obtain⟨r,y,x,B⟩:=mem_ready.1 w
   have G:∀e∈y.after,Region.binds md e=true->e.on≠i:=λe he Z N=>by
    have K:=B e he Z;rw[N,getD_both g]at K;cases K
   have X:=qOp_put x (l j y x d r G) (λA b=>t i z A b O) (λA b=>t j y A b x) M K
   have n:∀k J,ops[k]?=some J->k≠i->(c.setIfInBounds j true).getD k true=false->
    (∀e∈J.after,Region.binds md e=true->e.on≠i)->z.apart ops J=true:=λk J hk Q g R=>by
    refine l k J hk Q ?_ R;by_cases F:j=k;·subst F;exact r
    ·rw[getD_set_ne true F]at g;exact g
   refine qOp_mono (λW S=>ih (c.setIfInBounds j true) W (q.set w p) n (ready_mono s (Ne.symm d)) S.1 ?_) X;rw[Array.setIfInBounds_comm _ _ d];exact S.2
theorem y9 {m g:Nat}{n:Act->Prop}(d:Region.noSelect ops=true)(u:Region.sinkB md ops m=true)(s:Region.chainB md ops m=true)(t:m<ops.size):
 ∀(l:List Oper) (k:Nat) (b:Array Bool) (a:Act),(∀j,j<ln l->l[j]?=ops[k+j]?)->k+ln l=m->HeadInv md ops m b->
 Region.lexHead md ops g (ln l) k b=true->wpQuiet P ops C n l a->wV P md ops C m (λc r=>Region.seqB md ops g m c=true/\n r) (ln l) b a
 |[],k,b,a,_,hk,_,hB,h=>by
  have:k=m:=by simpa using hk
  subst this;exact⟨by simpa[Region.lexHead]using hB,h⟩
 |o::l,k,b,a,hl,hk,inv,hB,h=>by
  have i:ops[k]?=some o:=by simpa using(hl 0 sm).symm
  simp only[llc,Region.lexHead,bat]at hB;obtain⟨⟨z,y⟩,p⟩:=hB;have e:k<m:=by simp only[llc]at hk;omega
  have f:k∈Region.ready md ops b:=by simpa using z
  have q:qOp P ops C k (wpQuiet P ops C n l) a:=by unfold qOp;simp only[i];exact h
  obtain⟨v,A,w⟩:=yieldsIn_of_qOp i q
  exact DU i (Region.noSelect_spec d) u s t e (λc r x=>seqB_ready x.1) (ln l) b a inv (Region.free_spec i y) f A
   (y9 d u s t l (k+1) _ _ (λj hj=>by have:=hl (j+1) so;simpa[Nat.add_assoc,Nat.add_comm 1 j]using this) (by simp only[llc]at hk;omega) (inv.set f e) p w)
theorem mM {id:Nat} {Q:Exit->Act->Wd->Prop} {a:Act} {w:Wd} {l:List Oper} (m:Nat) (z:P.follows .mixedOrders=true) (p:Region.lexTailB .any l.toArray m=true)
 (h:wpQuiet P l.toArray (λw'=>∃s:cV w,w'=s.w) (λk=>∀w',(∃s:cV w,w'=s.w)->wpListIn Fence.wide n P l.toArray Q (l.drop m) k w') (l.take m) a):(Code.region id l.toArray true).wpIn Fence.wide n P Q a w:=by
 simp only[Region.lexTailB,bat,dte]at p;obtain⟨⟨⟨⟨f,v⟩,A⟩,y⟩,e⟩:=p;have hn':m<ln l:=by simpa using v
 have b:ln (l.take m)=m:=by simp;omega
 have d:ln (l.drop m)=l.toArray.size-m:=by simp
 have i:HeadInv .any l.toArray m (Array.replicate l.toArray.size false):=
  ⟨sm,λj oj _ u=>(by rw[getD_replicate_false]at u;cases u),λt _ B=>getD_in (by simpa using B) (getD_replicate_false _ _)⟩
 have H:=y9 (md:=.any) (g:=l.toArray.size-m) f A y v (l.take m) 0 _ a (λj r=>by
  have o:j<m:=by rw[b]at r;exact r
  simp[o]) (by simpa using b) i (by rw[b];exact e) h
 refine wpIn_region_any z ?_
 have:=nW (n:=n) (Q':=Q) (g:=l.toArray.size-m) (λc k w' x q=>by
  have:=nV (n:=n) (P:=P) (md:=.any) (Q':=Q) (l.drop m) m c k w' (λj=>by simp[List.getElem?_drop]) (by rw[d];exact q.1) (q.2 w' x);rwa[d]at this) _ _ _ w.drew ⟨⟨w.drew,(br _ _).drew⟩,rfl⟩ H
 rw[b,show m+(l.toArray.size-m)=l.toArray.size by omega]at this;exact this
end
