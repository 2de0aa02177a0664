import Derived.Test.YtcdbcliaepcpfaaGreatDoorGc
import Derived.Test.YtcdbcliaepcpfaaGreatDoorDx
namespace Go.Proofs.YtcdbcliaepcpfaaGreatDoor
open Go.RowKit
theorem oX {b b':Bk}(c:b'.now=b.now)(a:b'.fl=b.fl)(h:aU b.hl b'.hl):aN b'=aN b:=by
 unfold aN dN;rw[c,a,IW h,LB h,ME h,h.len]
theorem vQ {b b':Bk}(c:b'.now=b.now)(a:b'.fl=b.fl)(h:aU b.hl b'.hl)(x:Wx):sA b' x=sA b x:=by
 have e:∀d i k,rX b' x d i k=rX b x d i k:=λd i k=>by
  unfold rX;rw[a,c,IC h]
 have f:∀(d i:Int) (k:Nat),lE b' x d i k=lE b x d i k:=λd i k=>by
  unfold lE;rw[show(λ(j:Nat)=>rX b' x d i (j:Int))=λ(j:Nat)=>rX b x d i (j:Int)from funext λj=>e d i j]
 have g:∀(d:Int) (i:Nat),lZ b' x d i=lZ b x d i:=λd i=>by
  unfold lZ;rw[show(λ(j:Nat)=>lE b' x d (j:Int) x.ll.length)=λ(j:Nat)=>lE b x d (j:Int) x.ll.length from funext λj=>f d j _]
 have l:∀n:Nat,gK b' x n=gK b x n:=λn=>by
  unfold gK;rw[show(λ(j:Nat)=>lZ b' x (j:Int) x.wl.length)=λ(j:Nat)=>lZ b x (j:Int) x.wl.length from funext λj=>g j _]
 unfold sA;rw[oX c a h,a,l]
theorem pB {b b':Bk}(c:b'.now=b.now)(a:b'.fl=b.fl)(h:aU b.hl b'.hl)(f:Bool)(x:Wx):iX b' f x=iX b f x/\gX b' f x=gX b f x:=by
 have e:iX b' f x=iX b f x:=by
  unfold iX;rw[a,h.len,vQ c a h]
 refine⟨e,?_⟩;unfold gX;rw[e,vQ c a h]
theorem UT {l m:List Hx}(h:aU l m)(i:Nat){u v:Hx}(g:u.Like v):aU (l.take i++u::l.drop i) (m.take i++v::m.drop i):=by
 have c:l.map Hx.key=m.map Hx.key:=h.map Hx.key (λa b e=>by simp[Hx.key,e.n,e.t,e.x]);refine vC ?_;rw[List.map_append,List.map_append,List.map_cons,List.map_cons,List.map_take,List.map_take,List.map_drop,List.map_drop,c];simp[Hx.key,g.n,g.t,g.x]
theorem BS {b b':Bk}(c:b'.now=b.now)(a:b'.fl=b.fl)(h:aU b.hl b'.hl)(nm:ByteArray)(i:Nat)(f:Bool)(x:Wx):aU (l3 b nm i f x) (l3 b' nm i f x):=by
 unfold l3;rw[(pB c a h f x).1,vQ c a h];split
 ·split;·exact h
  ·exact UT h i ⟨rfl,rfl,rfl⟩
 ·exact h
theorem P9 {b b':Bk}{i:Nat}{f:Bool}(x:Wx)(d:aN b=true)(a:kZ b x.n b' i f):
 iX b' f x=dL b x/\gX b' f x=gX b (decide (0<=j8 b.hl x.n)) x/\aU (eU b x) (l3 b' x.n i f x):=by
 have c:=AH d a
 have e:decide (0<=j8 b.hl x.n)=f:=by
  rw[c];cases f with
  |true=>simp
  |false=>simp
 obtain⟨g,k⟩:=pB a.now a.fl a.lk f x;have l:=BS a.now a.fl a.lk x.n i f x;have m:l4 b.hl x.n=i:=FA a.at'.le (λj h o=>a.at'.lo j h o) (λh=>a.at'.hi i h (nlq _));unfold dL eU;rw[e,m];exact⟨g,k,l⟩
theorem DX {b b1:Bk}(d:b1.now=b.now)(c:b1.fl=b.fl)(h:aU b.hl b1.hl)(x:Wx):dL b1 x=dL b x/\gX b1 (decide (0<=j8 b1.hl x.n)) x=gX b (decide (0<=j8 b.hl x.n)) x/\aU (eU b x) (eU b1 x):=by
 have f:l4 b1.hl x.n=l4 b.hl x.n:=by
  rw[tY,tY,h.map Hx.key (λa b e=>by simp[Hx.key,e.n,e.t,e.x])]
 unfold dL eU;rw[oT h x.n,f];exact⟨(pB d c h _ x).1,(pB d c h _ x).2,BS d c h _ _ _ x⟩
end Go.Proofs.YtcdbcliaepcpfaaGreatDoor
