import Derived.Test.YtcdbcliaepcpfaaGreatDoorRp
import Derived.Test.YtcdbcliaepcpfaaGreatDoorImplTube
namespace Go.Proofs.YtcdbcliaepcpfaaGreatDoor
open Go.RowKit
theorem qA {f:Int}{x:Bx}:∀{l:List Bx},x∈bI f l->∃b∈l,x=gW f b/\f<=b.o
 |[],h=>by simp[bI]at h
 |b::r,h=>by
  by_cases a:f<=b.o
  ·rw[bI,if_pos a]at h;rcases List.mem_cons.1 h with rfl|h;·exact⟨b,by simp,rfl,a⟩
   ·obtain⟨c,d,e⟩:=qA h;exact⟨c,by simp[d],e⟩
  ·rw[bI,if_neg a]at h;obtain⟨c,d,e⟩:=qA h;exact⟨c,by simp[d],e⟩
theorem QE {f:Int} {a b:Bx} (ha:aK a=true) (g:aK b=true) (h:dQ (gW f a) (gW f b)=true):dQ a b=true:=by
 simp only[dQ,bat]at h ⊢;obtain⟨⟨⟨_,d⟩,e⟩,c⟩:=h;refine⟨⟨⟨⟨ha,g⟩,d⟩,e⟩,?_⟩;simp only[pO,dte]at c ⊢;have e1:max a.i f<=b.o:=c.1;have e2:max b.i f<=a.o:=c.2;omega
theorem TS {f:Int}{e lb:List Bx}(ha:e.all aK=true)(g:lb.all aK=true)(h:((bI f e).any λa=>(bI f lb).any (dQ a))=true):(e.any λa=>lb.any (dQ a))=true:=by
 rw[lat]at ha g;simp only[List.any_eq_true]at h ⊢;obtain⟨x,hx,y,j,i⟩:=h;obtain⟨a,c,rfl,_⟩:=qA hx;obtain⟨b,d,rfl,_⟩:=qA j;exact⟨a,c,b,d,QE (ha a c) (g b d) i⟩
theorem zZ (f:Int)(l:List Bx):fJ f (bI f l)=true:=by
 rw[fJ,lat];intro x hx;obtain⟨b,_,rfl,_⟩:=qA hx;show decide (f<=max b.i f)=true;rw[dte];omega
theorem uZ {a:List Fx}{l:List Bx}(h:aQ a l=true):l.all aK=true:=by
 simp only[aQ,bat]at h;exact h.2.1
theorem xG (l:List Hx):∀k,k<=l.length->(gL l k=true↔(l.take k).Pairwise (λa b=>cA a b=false))
 |0,_=>by simp[gL]
 |k+1,hk=>by
  have ih:=xG l k (by omega);have c:k<l.length:=by omega
  rw[gL,bat,ih,List.take_succ_eq_append_getElem c,List.pairwise_append,cQ l k c];constructor
  ·rintro⟨e,d⟩;refine⟨e,by simp,λa ha b f=>?_⟩;rw[List.mem_singleton.1 f];rw[kN,Bool.not_eq_true',List.any_eq_false]at d;simpa using d a ha
  ·rintro⟨e,_,d⟩;refine⟨e,?_⟩;rw[kN,Bool.not_eq_true',List.any_eq_false];intro a ha;simpa using d a ha _ (List.mem_singleton.2 rfl)
theorem rP (l:List Hx):gL l l.length=true↔l.Pairwise (λa b=>cA a b=false):=by
 have:=xG l l.length (nlq _);rwa[List.take_length]at this
theorem uU (l:List Hx):kK Hx.n l=true↔l.Pairwise (λa b=>fY a.n b.n=true):=by
 rw[List.pairwise_iff_getElem];constructor
 ·intro h i j c hj hij;have:=y9 h (i:=i) (j-i-1) (by omega);have e:i+(j-i-1)+1=j:=by omega
  simpa[e]using this
 ·intro h;rw[iJ];intro i c;exact h i (i+1) (by omega) c (by omega)
def yC (f:Int)(x:Hx):Hx:=if bI f x.tl=[]then⟨x.n,none,bI f x.nl,0,none,[],0⟩else⟨x.n,none,bI f x.tl,0,none,bI f x.nl,0⟩
theorem LL (f:Int)(x:Hx):(yC f x).n=x.n:=by unfold yC;split<;>rfl
theorem rD {f:Int}{a lb:List Bx}(ha:a.all aK=true)(c:lb.all aK=true)(h:cW a lb=false):cW (bI f a) (bI f lb)=false:=by
 cases hc:cW (bI f a) (bI f lb)with
 |false=>rfl
 |true=>
  have b:cW a lb=true:=TS ha c hc;rw[b]at h;cases h
theorem sU (lb:List Bx):cW [] lb=false:=rfl
theorem LG (a:List Bx):cW a []=false:=by
 unfold cW;simp
structure FR (x:Hx):Prop where
 t:x.tl.all aK=true
 n:x.nl.all aK=true
theorem qM {b:List Fx}{a:Int}{x:Hx}(h:cI b a x=true):FR x:=by
 simp only[cI,bat,Bool.or_eq_true]at h;refine⟨uZ h.1,?_⟩;rcases h.2.2 with h|h;·rw[List.isEmpty_iff.1 h];rfl
 ·exact uZ h.1
theorem QZ {f:Int}{a b:Hx}(ha:FR a)(c:FR b)(h:cA a b=false):cA (yC f a) (yC f b)=false:=by
 simp only[cA,Bool.or_eq_false_iff]at h;obtain⟨j,k,l,m⟩:=h;have d:=rD (f:=f) ha.t c.t j;have e:=rD (f:=f) ha.t c.n k;have g:=rD (f:=f) ha.n c.t l;have i:=rD (f:=f) ha.n c.n m;simp only[cA,Bool.or_eq_false_iff,yC];split<;>split<;>simp only[sU,LG,d,e,g,i,and_self]
theorem QB {b:List Fx}{i f:Int}{x:Hx}(h:cI b i x=true)(d:(yC f x).tl≠[]):cI b f (yC f x)=true:=by
 simp only[cI,bat,Bool.or_eq_true]at h;obtain⟨k,_,c⟩:=h
 have g:bI f x.nl≠[]->aQ b (bI f x.nl)=true:=λa=>by
  rcases c with c|c;·exfalso;apply a;rw[List.isEmpty_iff.1 c];rfl
  ·exact AO b f x.nl c.1 a
 by_cases a:bI f x.tl=[]
 ·have e:yC f x=⟨x.n,none,bI f x.nl,0,none,[],0⟩:=by unfold yC;rw[if_pos a]
  rw[e]at d ⊢;simp only[cI,bat,Bool.or_eq_true];exact⟨g d,zZ f _,.inl rfl⟩
 ·have e:yC f x=⟨x.n,none,bI f x.tl,0,none,bI f x.nl,0⟩:=by unfold yC;rw[if_neg a]
  rw[e];simp only[cI,bat,Bool.or_eq_true];refine⟨AO b f x.tl k a,zZ f _,?_⟩;by_cases j:bI f x.nl=[];·exact .inl (by rw[j];rfl)
  ·exact .inr ⟨g j,zZ f _⟩
theorem QL {g:List Fx}{d f:Int}{l:List Hx}(h:dN g d l=true):dN g f ((l.map (yC f)).filter (λx=>!x.tl.isEmpty))=true:=by
 simp only[dN,bat,bV]at h ⊢;obtain⟨⟨i,ha⟩,b,j⟩:=h;rw[uU]at ha ⊢;rw[rP]at j ⊢;rw[lat]at i b;refine⟨⟨?_,?_⟩,?_,?_⟩
 ·rw[lat];intro x hx;obtain⟨y,c,rfl⟩:=List.mem_map.1 (List.mem_filter.1 hx).1;rw[LL];exact i y c
 ·refine List.Pairwise.filter _ ?_;rw[List.pairwise_map];exact ha.imp (λh=>by rw[LL,LL];exact h)
 ·rw[lat];intro x hx;obtain⟨m,a⟩:=List.mem_filter.1 hx;obtain⟨y,c,rfl⟩:=List.mem_map.1 m;exact QB (b y c) (λe=>by rw[e]at a;simp at a)
 ·refine List.Pairwise.filter _ ?_;rw[List.pairwise_map];exact j.imp_of_mem (λha k h=>QZ (qM (b _ ha)) (qM (b _ k)) h)
theorem O8 {o:List Fx}{k:Int}{l:List Hx}{i:Nat}{y:Hx}(h:dN o k l=true)(hi:i<l.length)(r:y.n=l[i].n)(u:cI o k y=true)
 (p:∀j (t:j<l.length),j<i->cA l[j] y=false)(q:∀j (t:j<l.length),i<j->cA y l[j]=false):dN o k (l.set i y)=true:=by
 simp only[dN,bat,bV]at h ⊢;obtain⟨⟨g,ha⟩,m,s⟩:=h;rw[uU,List.pairwise_iff_getElem]at ha ⊢;rw[rP,List.pairwise_iff_getElem]at s ⊢;rw[lat]at g m;refine⟨⟨?_,?_⟩,?_,?_⟩
 ·rw[lat];intro x hx;rcases List.mem_or_eq_of_mem_set hx with hx|rfl;·exact g x hx
  ·rw[r];exact g _ (lgm _)
 ·intro a b c d f;rw[List.length_set]at c d;have:=ha a b c d f;rw[List.getElem_set,List.getElem_set];split
  ·split;·omega
   ·rename_i e _;subst e;rw[r];exact this
  ·split;·rename_i e;subst e;rw[r];exact this
   ·exact this
 ·rw[lat];intro x hx;rcases List.mem_or_eq_of_mem_set hx with hx|rfl;·exact m x hx
  ·exact u
 ·intro a b c d f;rw[List.length_set]at c d;rw[List.getElem_set,List.getElem_set];split
  ·split;·omega
   ·rename_i e _;subst e;exact q b d f
  ·split;·rename_i e;subst e;exact p a c f
   ·exact s a b c d f
theorem JI {α:Type}{r:α->α->Prop}{l:List α}{k:Nat}{y:α}(h:l.Pairwise r)(d:∀a∈l.take k,r a y)(e:∀b∈l.drop k,r y b):(l.take k++y::l.drop k).Pairwise r:=by
 have h':(l.take k++l.drop k).Pairwise r:=by rw[List.take_append_drop];exact h
 rw[List.pairwise_append]at h' ⊢;obtain⟨f,g,i⟩:=h';refine⟨f,List.pairwise_cons.2 ⟨e,g⟩,λa ha b c=>?_⟩;rcases List.mem_cons.1 c with rfl|c;·exact d a ha
 ·exact i a ha b c
theorem RR {g:List Fx}{d:Int}{l:List Hx}{k:Nat}{y:Hx}(h:dN g d l=true)(q:cS y.n=true)(r:cI g d y=true)(m:∀a∈l.take k,fY a.n y.n=true)(o:∀b∈l.drop k,fY y.n b.n=true)
 (i:∀z∈l,cA z y=false/\cA y z=false):dN g d (l.take k++y::l.drop k)=true:=by
 simp only[dN,bat,bV]at h ⊢;obtain⟨⟨e,ha⟩,f,j⟩:=h;rw[uU]at ha ⊢;rw[rP]at j ⊢;rw[lat]at e f
 have c:∀x∈l.take k++y::l.drop k,x∈l∨x=y:=λx hx=>by
  rcases lma.1 hx with hx|hx;·exact .inl (List.mem_of_mem_take hx)
  ·rcases List.mem_cons.1 hx with rfl|hx;·exact .inr rfl
   ·exact .inl (List.mem_of_mem_drop hx)
 refine⟨⟨?_,JI ha m o⟩,?_,JI j (λa ha=>(i a (List.mem_of_mem_take ha)).1) (λb p=>(i b (List.mem_of_mem_drop p)).2)⟩
 ·rw[lat];intro x hx;rcases c x hx with hx|rfl;·exact e x hx
  ·exact q
 ·rw[lat];intro x hx;rcases c x hx with hx|rfl;·exact f x hx
  ·exact r
end Go.Proofs.YtcdbcliaepcpfaaGreatDoor
