import Derived.Test.YtoolgmmljacfmaaGreatDoorImplTube
open List renaming length → ln
open Go.RowKit
namespace Go.Proofs.YtoolgmmljacfmaaGreatDoor
variable {f:Int}{a b:Bx}
theorem RN:∀(r:List Bx) (a:Bx),fJ (a::r)=true->∀b∈r,a.o<=b.o
 |[],_,_,b,e=>by simp at e
 |c::r,a,h,b,e=>by
  rw[fJ,bat]at h
  have d:a.o<=c.o:=by
   have:=h.1;simp only[dW,dte]at this;omega
  rcases lmc.1 e with rfl|e;·exact d
  ·exact Int.le_trans d (RN r c h.2 b e)
theorem KU (f:Int):∀l:List Bx,(∀b∈l,f<=b.o)->bH f l=l.map (iF f)
 |[],_=>rfl
 |b::r,h=>by
  rw[bH,if_pos (h b sm),KU f r (λc a=>h c (by simp[a]))];rfl
theorem CG (f:Int):∀l:List Bx,fJ l=true->∃k,bH f l=(l.drop k).map (iF f)/\∀b∈l.drop k,f<=b.o
 |[],_=>⟨0,rfl,sm⟩
 |a::r,h=>by
  by_cases ha:f<=a.o
  ·have c:∀b∈a::r,f<=b.o:=λb d=>by
    rcases lmc.1 d with rfl|d;·exact ha
    ·exact Int.le_trans ha (RN r a h b d)
   exact⟨0,by rw[KU f _ c];rfl,c⟩
  ·have m:fJ r=true:=by
    rw[fO]at h ⊢;intro i j;exact h (i+1) (by simpa using j)
   obtain⟨k,e,g⟩:=CG f r m;exact⟨k+1,by rw[bH,if_neg ha,e];rfl,g⟩
theorem OY (h:dW a b=true)(ha:f<=a.o):dW (iF f a) (iF f b)=true:=by
 simp only[dW,dte]at h ⊢;obtain⟨c,d,e,g,j,k,h7,l,h9⟩:=h;refine⟨c,d,e,g,j,k,?_,l,?_⟩;·show max a.i f<=max b.i f;omega
 ·show max b.i f<=a.o+1;omega
theorem SQ (h:aK a=true)(ha:f<=a.o):aK (iF f a)=true:=by
 simp only[aK,dte]at h ⊢;obtain⟨c,d,e,g,j,k,l,h8,h9,b⟩:=h;refine⟨c,d,e,g,j,k,l,?_,?_,b⟩;·show 0<=max a.i f;omega
 ·show max a.i f<=a.o;omega
theorem B7 (d:List Fx)(f:Int)(l:List Bx)(h:aQ d l=true)(c:bH f l≠[]):aQ d (bH f l)=true:=by
 simp only[aQ,bat]at h;obtain⟨s,ha,g,m⟩:=h;obtain⟨k,q,n⟩:=CG f l g;rw[q]at c ⊢
 have hkl:k<ln l:=by
  rcases Nat.lt_or_ge k (ln l)with h|h;·exact h
  ·exfalso;apply c;rw[List.drop_eq_nil_of_le h];rfl
 have a:ln ((l.drop k).map (iF f))=ln l-k:=by rw[List.length_map,lld]
 simp only[oO,dte]at s;simp only[aQ,bat];refine⟨?_,?_,?_,?_⟩;·rw[a];simp only[oO,dte];omega
 ·rw[lat]at ha ⊢;intro x hx;obtain⟨b,j,rfl⟩:=lmm.1 hx;exact SQ (ha b (lmd j)) (n b j)
 ·rw[fO]at g ⊢;intro i r;rw[a]at r;rw[List.getElem_map,List.getElem_map,List.getElem_drop,List.getElem_drop];have:=g (k+i) om;refine OY (by simpa[Nat.add_assoc]using this) (n _ ?_);rw[List.mem_iff_getElem];exact⟨i,by rw[lld];omega,by rw[List.getElem_drop]⟩
 ·have o:ln l-1<ln l:=om;rw[l9 d l o]at m;have p:ln ((l.drop k).map (iF f))-1<ln ((l.drop k).map (iF f)):=by rw[a];omega
  rw[l9 d _ p]
  have e:((l.drop k).map (iF f))[ln ((l.drop k).map (iF f))-1]=iF f l[ln l-1]:=by
   rw[List.getElem_map,List.getElem_drop];congr 2;rw[a];omega
  rw[e];exact m
variable {x:Bx}{e lb:List Bx}{a:List Fx}
theorem rE:∀{l:List Bx},x∈bH f l->∃b∈l,x=iF f b/\f<=b.o
 |[],h=>by simp[bH]at h
 |b::r,h=>by
  by_cases a:f<=b.o
  ·rw[bH,if_pos a]at h;rcases lmc.1 h with rfl|h;·exact⟨b,sm,rfl,a⟩
   ·obtain⟨c,d,e⟩:=rE h;exact⟨c,by simp[d],e⟩
  ·rw[bH,if_neg a]at h;obtain⟨c,d,e⟩:=rE h;exact⟨c,by simp[d],e⟩
theorem UD (ha:aK x=true) (g:aK b=true) (h:dY (iF f x) (iF f b)=true):dY x b=true:=by
 simp only[dY,bat]at h ⊢;obtain⟨⟨⟨_,d⟩,e⟩,c⟩:=h;refine⟨⟨⟨⟨ha,g⟩,d⟩,e⟩,?_⟩;simp only[qT,dte]at c ⊢;have e1:max x.i f<=b.o:=c.1;have e2:max b.i f<=x.o:=c.2;omega
theorem VX (ha:e.all aK=true)(g:lb.all aK=true)(h:((bH f e).any λa=>(bH f lb).any (dY a))=true):(e.any λa=>lb.any (dY a))=true:=by
 rw[lat]at ha g;simp only[List.any_eq_true]at h ⊢;obtain⟨x,hx,y,j,i⟩:=h;obtain⟨a,c,rfl,_⟩:=rE hx;obtain⟨b,d,rfl,_⟩:=rE j;exact⟨a,c,b,d,UD (ha a c) (g b d) i⟩
theorem BL (f:Int)(l:List Bx):fY f (bH f l)=true:=by
 rw[fY,lat];intro x hx;obtain⟨b,_,rfl,_⟩:=rE hx;show decide (f<=max b.i f)=true;rw[dte];omega
theorem uX (h:aQ a e=true):e.all aK=true:=by
 simp only[aQ,bat]at h;exact h.2.1
theorem yU (l:List Hx):∀k,k<=ln l->(gO l k=true↔(l.take k).Pairwise (λa b=>cJ a b=false))
 |0,_=>by simp[gO]
 |k+1,hk=>by
  have ih:=yU l k om;have c:k<ln l:=om;rw[gO,bat,ih,tsa c,List.pairwise_append,dB l k c];constructor
  ·rintro⟨e,d⟩;refine⟨e,sm,λa ha b f=>?_⟩;rw[lms.1 f];rw[lC,Bool.not_eq_true',List.any_eq_false]at d;simpa using d a ha
  ·rintro⟨e,_,d⟩;refine⟨e,?_⟩;rw[lC,Bool.not_eq_true',List.any_eq_false];intro a ha;simpa using d a ha _ (lms.2 rfl)
theorem sU (l:List Hx):gO l (ln l)=true↔l.Pairwise (λa b=>cJ a b=false):=by
 have:=yU l (ln l) (nlq _);rwa[List.take_length]at this
variable {a:List Bx}{b g o:List Fx}{w:Int}{x v:Hx}{l:List Hx}{i k:Nat}
theorem vQ (l:List Hx):kR Hx.n l=true↔l.Pairwise (λa b=>gE a.n b.n=true):=by
 rw[List.pairwise_iff_getElem];constructor
 ·intro h i j c hj hij;have:=CN h (i:=i) (j-i-1) om;have e:i+(j-i-1)+1=j:=om;simpa[e]using this
 ·intro h;rw[iU];intro i c;exact h i (i+1) om c om
def zF (f:Int)(x:Hx):Hx:=if bH f x.tl=[]then⟨x.n,none,bH f x.nl,0,none,[],0⟩else⟨x.n,none,bH f x.tl,0,none,bH f x.nl,0⟩
theorem OL (f:Int)(x:Hx):(zF f x).n=x.n:=by unfold zF;split<;>rfl
theorem sK {f:Int}(ha:a.all aK=true)(c:lb.all aK=true)(h:dD a lb=false):dD (bH f a) (bH f lb)=false:=by
 cases hc:dD (bH f a) (bH f lb)with
 |false=>rfl
 |true=>
  have b:dD a lb=true:=VX ha c hc;rw[b]at h;cases h
theorem tV (lb:List Bx):dD [] lb=false:=rfl
theorem O8 (a:List Bx):dD a []=false:=by
 unfold dD;simp
structure G6 (x:Hx):Prop where
 t:x.tl.all aK=true
 n:x.nl.all aK=true
theorem rI (h:cK b w x=true):G6 x:=by
 simp only[cK,bat,bot]at h;refine⟨uX h.1,?_⟩;rcases h.2.2 with h|h;·rw[List.isEmpty_iff.1 h];rfl
 ·exact uX h.1
theorem VT (ha:G6 x)(c:G6 v)(h:cJ x v=false):cJ (zF w x) (zF w v)=false:=by
 simp only[cJ,Bool.or_eq_false_iff]at h;obtain⟨j,k,l,m⟩:=h;have d:=sK (f:=w) ha.t c.t j;have e:=sK (f:=w) ha.t c.n k;have g:=sK (f:=w) ha.n c.t l;have i:=sK (f:=w) ha.n c.n m;simp only[cJ,Bool.or_eq_false_iff,zF];split<;>split<;>simp only[tV,O8,d,e,g,i,and_self]
theorem TZ (h:cK b w x=true)(d:(zF f x).tl≠[]):cK b f (zF f x)=true:=by
 simp only[cK,bat,bot]at h;obtain⟨k,_,c⟩:=h
 have g:bH f x.nl≠[]->aQ b (bH f x.nl)=true:=λa=>by
  rcases c with c|c;·exfalso;apply a;rw[List.isEmpty_iff.1 c];rfl
  ·exact B7 b f x.nl c.1 a
 by_cases a:bH f x.tl=[]
 ·have e:zF f x=⟨x.n,none,bH f x.nl,0,none,[],0⟩:=by unfold zF;rw[if_pos a]
  rw[e]at d ⊢;simp only[cK,bat,bot];exact⟨g d,BL f _,.inl rfl⟩
 ·have e:zF f x=⟨x.n,none,bH f x.tl,0,none,bH f x.nl,0⟩:=by unfold zF;rw[if_neg a]
  rw[e];simp only[cK,bat,bot];refine⟨B7 b f x.tl k a,BL f _,?_⟩;by_cases j:bH f x.nl=[];·exact .inl (by rw[j];rfl)
  ·exact .inr ⟨g j,BL f _⟩
theorem U0 (h:dU g w l=true):dU g f ((l.map (zF f)).filter (λx=>!x.tl.isEmpty))=true:=by
 simp only[dU,bat,bX]at h ⊢;obtain⟨⟨i,ha⟩,b,j⟩:=h;rw[vQ]at ha ⊢;rw[sU]at j ⊢;rw[lat]at i b;refine⟨⟨?_,?_⟩,?_,?_⟩
 ·rw[lat];intro x hx;obtain⟨y,c,rfl⟩:=lmm.1 (List.mem_filter.1 hx).1;rw[OL];exact i y c
 ·refine List.Pairwise.filter _ ?_;rw[List.pairwise_map];exact ha.imp (λh=>by rw[OL,OL];exact h)
 ·rw[lat];intro x hx;obtain⟨m,a⟩:=List.mem_filter.1 hx;obtain⟨y,c,rfl⟩:=lmm.1 m;exact TZ (b y c) (λe=>by rw[e]at a;simp at a)
 ·refine List.Pairwise.filter _ ?_;rw[List.pairwise_map];exact j.imp_of_mem (λha k h=>VT (rI (b _ ha)) (rI (b _ k)) h)
theorem TW (h:dU o w l=true)(hi:i<ln l)(r:v.n=l[i].n)(u:cK o w v=true)
 (p:∀j (t:j<ln l),j<i->cJ l[j] v=false)(q:∀j (t:j<ln l),i<j->cJ v l[j]=false):dU o w (l.set i v)=true:=by
 simp only[dU,bat,bX]at h ⊢;obtain⟨⟨g,ha⟩,m,s⟩:=h;rw[vQ,List.pairwise_iff_getElem]at ha ⊢;rw[sU,List.pairwise_iff_getElem]at s ⊢;rw[lat]at g m;refine⟨⟨?_,?_⟩,?_,?_⟩
 ·rw[lat];intro x hx;rcases List.mem_or_eq_of_mem_set hx with hx|rfl;·exact g x hx
  ·rw[r];exact g _ (lgm _)
 ·intro a b c d f;rw[List.length_set]at c d;have:=ha a b c d f;rw[List.getElem_set,List.getElem_set];split
  ·split;·omega
   ·rename_i e _;subst e;rw[r];exact this
  ·split;·rename_i e;subst e;rw[r];exact this
   ·exact this
 ·rw[lat];intro x hx;rcases List.mem_or_eq_of_mem_set hx with hx|rfl;·exact m x hx
  ·exact u
 ·intro a b c d f;rw[List.length_set]at c d;rw[List.getElem_set,List.getElem_set];split
  ·split;·omega
   ·rename_i e _;subst e;exact q b d f
  ·split;·rename_i e;subst e;exact p a c f
   ·exact s a b c d f
theorem JR {α:Type}{r:α->α->Prop}{l:List α}{y:α}(h:l.Pairwise r)(d:∀a∈l.take k,r a y)(e:∀b∈l.drop k,r y b):(l.take k++y::l.drop k).Pairwise r:=by
 have h':(l.take k++l.drop k).Pairwise r:=by rw[List.take_append_drop];exact h
 rw[List.pairwise_append]at h' ⊢;obtain⟨f,g,i⟩:=h';refine⟨f,List.pairwise_cons.2 ⟨e,g⟩,λa ha b c=>?_⟩;rcases lmc.1 c with rfl|c;·exact d a ha
 ·exact i a ha b c
theorem VN (h:dU g w l=true)(q:cO v.n=true)(r:cK g w v=true)(m:∀a∈l.take k,gE a.n v.n=true)(o:∀b∈l.drop k,gE v.n b.n=true)
 (i:∀z∈l,cJ z v=false/\cJ v z=false):dU g w (l.take k++v::l.drop k)=true:=by
 simp only[dU,bat,bX]at h ⊢;obtain⟨⟨e,ha⟩,f,j⟩:=h;rw[vQ]at ha ⊢;rw[sU]at j ⊢;rw[lat]at e f
 have c:∀x∈l.take k++v::l.drop k,x∈l∨x=v:=λx hx=>by
  rcases lma.1 hx with hx|hx;·exact .inl (lmt hx)
  ·rcases lmc.1 hx with rfl|hx;·exact .inr rfl
   ·exact .inl (lmd hx)
 refine⟨⟨?_,JR ha m o⟩,?_,JR j (λa ha=>(i a (lmt ha)).1) (λb p=>(i b (lmd p)).2)⟩
 ·rw[lat];intro x hx;rcases c x hx with hx|rfl;·exact e x hx
  ·exact q
 ·rw[lat];intro x hx;rcases c x hx with hx|rfl;·exact f x hx
  ·exact r
