import Derived.Test.YtcdbcliaepcpfaaGreatDoorFld
namespace Go.Proofs.YtcdbcliaepcpfaaGreatDoor
open Go.RowKit
theorem OG:∀(r:List Bx) (a:Bx),eY (a::r)=true->∀b∈r,a.o<=b.o
 |[],_,_,b,e=>by simp at e
 |c::r,a,h,b,e=>by
  rw[eY,bat]at h
  have d:a.o<=c.o:=by
   have:=h.1;simp only[dP,dte]at this;omega
  rcases List.mem_cons.1 e with rfl|e;·exact d
  ·exact Int.le_trans d (OG r c h.2 b e)
theorem IG (f:Int):∀l:List Bx,(∀b∈l,f<=b.o)->bI f l=l.map (gW f)
 |[],_=>rfl
 |b::r,h=>by
  rw[bI,if_pos (h b (by simp)),IG f r (λc a=>h c (by simp[a]))];rfl
theorem zH (f:Int):∀l:List Bx,eY l=true->∃k,bI f l=(l.drop k).map (gW f)/\∀b∈l.drop k,f<=b.o
 |[],_=>⟨0,rfl,by simp⟩
 |a::r,h=>by
  by_cases ha:f<=a.o
  ·have c:∀b∈a::r,f<=b.o:=λb d=>by
    rcases List.mem_cons.1 d with rfl|d;·exact ha
    ·exact Int.le_trans ha (OG r a h b d)
   exact⟨0,by rw[IG f _ c];rfl,c⟩
  ·have m:eY r=true:=by
    rw[fC]at h ⊢;intro i j;exact h (i+1) (by simpa using j)
   obtain⟨k,e,g⟩:=zH f r m;exact⟨k+1,by rw[bI,if_neg ha,e];rfl,g⟩
theorem MZ {f:Int}{a b:Bx}(h:dP a b=true)(ha:f<=a.o):dP (gW f a) (gW f b)=true:=by
 simp only[dP,dte]at h ⊢;obtain⟨c,d,e,g,j,k,h7,l,h9⟩:=h;refine⟨c,d,e,g,j,k,?_,l,?_⟩;·show max a.i f<=max b.i f;omega
 ·show max b.i f<=a.o+1;omega
theorem QI {f:Int}{a:Bx}(h:aK a=true)(ha:f<=a.o):aK (gW f a)=true:=by
 simp only[aK,dte]at h ⊢;obtain⟨c,d,e,g,j,k,l,h8,h9,b⟩:=h;refine⟨c,d,e,g,j,k,l,?_,?_,b⟩;·show 0<=max a.i f;omega
 ·show max a.i f<=a.o;omega
theorem AO (d:List Fx)(f:Int)(l:List Bx)(h:aQ d l=true)(c:bI f l≠[]):aQ d (bI f l)=true:=by
 simp only[aQ,bat]at h;obtain⟨s,ha,g,m⟩:=h;obtain⟨k,q,n⟩:=zH f l g;rw[q]at c ⊢
 have hkl:k<l.length:=by
  rcases Nat.lt_or_ge k l.length with h|h;·exact h
  ·exfalso;apply c;rw[List.drop_eq_nil_of_le h];rfl
 have a:((l.drop k).map (gW f)).length=l.length-k:=by rw[List.length_map,List.length_drop]
 simp only[n6,dte]at s;simp only[aQ,bat];refine⟨?_,?_,?_,?_⟩;·rw[a];simp only[n6,dte];omega
 ·rw[lat]at ha ⊢;intro x hx;obtain⟨b,j,rfl⟩:=List.mem_map.1 hx;exact QI (ha b (List.mem_of_mem_drop j)) (n b j)
 ·rw[fC]at g ⊢;intro i r;rw[a]at r;rw[List.getElem_map,List.getElem_map,List.getElem_drop,List.getElem_drop];have:=g (k+i) (by omega);refine MZ (by simpa[Nat.add_assoc]using this) (n _ ?_);rw[List.mem_iff_getElem];exact⟨i,by rw[List.length_drop];omega,by rw[List.getElem_drop]⟩
 ·have o:l.length-1<l.length:=by omega
  rw[lC d l o]at m;have p:((l.drop k).map (gW f)).length-1<((l.drop k).map (gW f)).length:=by rw[a];omega
  rw[lC d _ p]
  have e:((l.drop k).map (gW f))[((l.drop k).map (gW f)).length-1]=gW f l[l.length-1]:=by
   rw[List.getElem_map,List.getElem_drop];congr 2;rw[a];omega
  rw[e];exact m
end Go.Proofs.YtcdbcliaepcpfaaGreatDoor
