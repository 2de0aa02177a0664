import Derived.Test.YtoolgmmljacfmaaGreatDoorAl
import Derived.StillTail
import Derived.BigQuiet
import Derived.RegionIn
import Derived.OwnWalkIn
set_option maxRecDepth 100000
open List renaming length → ln
open Go.RowKit
namespace Go.Proofs.YtoolgmmljacfmaaGreatDoor
section
variable {n:Nat}{P:Program}{ops:Array Oper}{md:Region.Mode}{w:World}
theorem EH {o:Oper}{a:Act}{K:Act->Prop}{c:Act->Wd->Prop}{Q':Exit->Act->Wd->Prop}(h:∀a,K a->c a w)(b:o.still P a w K):o.wpIn Fence.wide n P a w c Q':=by
 refine⟨λ_ _=>trivial,?_⟩;unfold Oper.still at b;have k:Oper.semAt Fence.wide.round a.eval o=execOp a.eval o:=rfl;rw[k];generalize(execOp a.eval o).run P w=r at*;cases r with
 |ok x w'=>
  cases x<;>simp only[Oper.stillUpon]at b<;>simp only[Oper.uponIn]
  case enter f args=>
   obtain⟨rfl,v,g,j⟩:=b;exact⟨(λh=>by cases h),cw.2 (g.mono λe w'' ⟨i,l⟩=>by subst i;subst l;exact h _ j)⟩
  all_goals (obtain⟨rfl,d⟩:=b;exact h _ d)
 |halt x w'=>simp only[Oper.stillUpon]at b
theorem BN {i:Nat}{a:Act}{K:Act->Prop}{e:Act->Wd->Prop}{Q':Exit->Act->Wd->Prop}(h:∀a,K a->e a w)(b:stOp P ops w i K a):wpOpIn Fence.wide n P ops Q' i e a w:=by
 unfold stOp at b;unfold wpOpIn;split;·rename_i c;simp only[c]at b;exact h _ b
 ·rename_i o c;simp only[c]at b;split;·rename_i d;simp only[d,if_true]at b;exact EH h b
  ·rename_i d;simp only[d]at b;exact⟨λ_ _=>trivial,h _ b⟩
theorem qP {m g:Nat}{L:Array Bool->Act->Prop}{Q':Exit->Act->Wd->Prop}(c:∀b a,L b a->wpAnyIn Fence.wide n P md ops Q' g b a w):
 ∀(f:Nat) (b:Array Bool) (a:Act),wpAnyL P md ops w m L f b a->wpAnyIn Fence.wide n P md ops Q' (f+g) b a w
 |0,b,a,h=>by rw[nza];exact c _ _ h
 |f+1,b,a,h=>by
  rw[show f+1+g=(f+g)+1 by omega];exact⟨λe=>absurd e h.1,λi j=>BN (λd h'=>qP c f _ d h') (h.2 i j).2⟩
theorem nV {Q':Exit->Act->Wd->Prop}:∀(l:List Oper) (k:Nat) (b:Array Bool) (a:Act) (w:Wd),(∀j,l[j]?=ops[k+j]?)->
 Region.seqB md ops (ln l) k b=true->wpListIn Fence.wide n P ops Q' l a w->wpAnyIn Fence.wide n P md ops Q' (ln l) b a w
 |[],_,_,_,_,_,hB,h=>⟨by simpa[Region.seqB]using hB,h⟩
 |o::l,k,b,a,w,hl,hB,h=>by
  have g:ops[k]?=some o:=by simpa using(hl 0).symm
  simp only[llc,Region.seqB,bat,dte]at hB;refine⟨λd=>(by rw[hB.1]at d;cases d),λi e=>?_⟩;rw[hB.1]at e;have c:i=k:=by simpa using e
  subst c;have m:wpOpIn Fence.wide n P ops Q' i (wpListIn Fence.wide n P ops Q' l) a w:=by unfold wpOpIn;simp only[g];exact h
  exact wpOpIn_mono (λf w' h'=>nV l (i+1) _ f w' (λj=>by have:=hl (j+1);simpa[Nat.add_assoc,Nat.add_comm 1 j]using this) hB.2 h') m
theorem CA {Q:Act->Prop}{l:List Oper}:∀{a:Act},wpQuiet P ops (λw'=>w'=w) Q l a->wpStill P ops w Q l a:=by
 induction l with
 |nil=>intro a h;exact h
 |cons o r ih=>
  intro a h;unfold wpQuiet at h;unfold wpStill
  split at h
  ·rename_i g
   rw[if_pos g];obtain⟨v,i,j⟩:=h;have b:=i w rfl;have e:=ih j;unfold Oper.quietAt at b;unfold Oper.still;generalize(execOp a.eval o).run P w=q at*
   cases q with
   |ok x w'=>
    cases x<;>simp only[Oper.quietUpon]at b<;>simp only[Oper.stillUpon]
    case value u=>obtain⟨c,d⟩:=b;subst d;exact⟨c,e⟩
    case skip=>obtain⟨c,d⟩:=b;subst d;exact⟨c,e⟩
    case enter f args=>obtain⟨c,k⟩:=b;exact⟨c,v,k,e⟩
   |halt x w'=>simp only[Oper.quietUpon]at b
  ·rename_i g
   rw[if_neg g];exact ih h
theorem jX {id:Nat} {Q:Exit->Act->Wd->Prop} {a:Act} {w:Wd} {l:List Oper} (m:Nat) (x:P.follows .mixedOrders=true) (p:Region.lexTailB .any l.toArray m=true)
 (h:wpQuiet P l.toArray (λw'=>w'=w.drew) (λk=>wpListIn Fence.wide n P l.toArray Q (l.drop m) k w.drew) (l.take m) a):(Code.region id l.toArray true).wpIn Fence.wide n P Q a w:=by
 simp only[Region.lexTailB,bat,dte]at p;obtain⟨⟨⟨⟨f,u⟩,y⟩,v⟩,e⟩:=p;have hn':m<ln l:=by simpa using u
 have b:ln (l.take m)=m:=by simp;omega
 have d:ln (l.drop m)=l.toArray.size-m:=by simp
 have i:HeadInv .any l.toArray m (Array.replicate l.toArray.size false):=
  ⟨sm,λj oj _ s=>(by rw[getD_replicate_false]at s;cases s),λt _ z=>getD_in (by simpa using z) (getD_replicate_false _ _)⟩
 have H:=wpAnyL_lex (md:=.any) (g:=l.toArray.size-m) f y v u (l.take m) 0 _ a (λj r=>by
  have o:j<m:=by rw[b]at r;exact r
  simp[o]) (by simpa using b) i (by rw[b];exact e) (CA h)
 refine wpIn_region_any x ?_
 have:=qP (n:=n) (Q':=Q) (g:=l.toArray.size-m) (λc k q=>by
  have:=nV (n:=n) (P:=P) (md:=.any) (Q':=Q) (l.drop m) m c k w.drew (λj=>by simp[List.getElem?_drop]) (by rw[d];exact q.1) q.2;rwa[d]at this) _ _ _ H
 rw[b,show m+(l.toArray.size-m)=l.toArray.size by omega]at this;exact this
end
