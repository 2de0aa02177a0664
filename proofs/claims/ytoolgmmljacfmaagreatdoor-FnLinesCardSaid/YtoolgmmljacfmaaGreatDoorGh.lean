import Derived.Test.YtoolgmmljacfmaaGreatDoorGc
import Derived.Test.YtoolgmmljacfmaaGreatDoorDx
open List renaming length → ln
open Go.RowKit
namespace Go.Proofs.YtoolgmmljacfmaaGreatDoor
variable {b b':Bk}{l m:List Hx}{u v:Hx}{i:Nat}{f:Bool}
theorem nS {b b':Bk}(c:b'.now=b.now)(a:b'.fl=b.fl)(h:aT b.hl b'.hl):aO b'=aO b:=by
 unfold aO dU;rw[c,a,KC h,QT h,QO h,h.len]
theorem xT (c:b'.now=b.now)(a:b'.fl=b.fl)(h:aT b.hl b'.hl)(x:Wx):tH b' x=tH b x:=by
 have e:∀d i k,tK b' x d i k=tK b x d i k:=λd i k=>by
  unfold tK;rw[a,c,MC h]
 have f:∀(d i:Int) (k:Nat),lM b' x d i k=lM b x d i k:=λd i k=>by
  unfold lM;rw[show(λ(j:Nat)=>tK b' x d i (j:Int))=λ(j:Nat)=>tK b x d i (j:Int)from funext λj=>e d i j]
 have g:∀(d:Int) (i:Nat),mS b' x d i=mS b x d i:=λd i=>by
  unfold mS;rw[show(λ(j:Nat)=>lM b' x d (j:Int) (ln x.ll))=λ(j:Nat)=>lM b x d (j:Int) (ln x.ll)from funext λj=>f d j _]
 have l:∀n:Nat,gV b' x n=gV b x n:=λn=>by
  unfold gV;rw[show(λ(j:Nat)=>mS b' x (j:Int) (ln x.wl))=λ(j:Nat)=>mS b x (j:Int) (ln x.wl)from funext λj=>g j _]
 unfold tH;rw[nS c a h,a,l]
theorem qD (c:b'.now=b.now)(a:b'.fl=b.fl)(h:aT b.hl b'.hl)(f:Bool)(x:Wx):jQ b' f x=jQ b f x/\iA b' f x=iA b f x:=by
 have e:jQ b' f x=jQ b f x:=by
  unfold jQ;rw[a,h.len,xT c a h]
 refine⟨e,?_⟩;unfold iA;rw[e,xT c a h]
theorem YB (h:aT l m)(i:Nat)(g:u.Like v):aT (l.take i++u::l.drop i) (m.take i++v::m.drop i):=by
 have c:l.map Hx.key=m.map Hx.key:=h.map Hx.key (λa b e=>by simp[Hx.key,e.n,e.t,e.x]);refine vM ?_;rw[lmp,lmp,List.map_cons,List.map_cons,List.map_take,List.map_take,List.map_drop,List.map_drop,c];simp[Hx.key,g.n,g.t,g.x]
theorem CU (c:b'.now=b.now)(a:b'.fl=b.fl)(h:aT b.hl b'.hl)(nm:Ba)(i:Nat)(f:Bool)(x:Wx):aT (mO b nm i f x) (mO b' nm i f x):=by
 unfold mO;rw[(qD c a h f x).1,xT c a h];split
 ·split;·exact h
  ·exact YB h i ⟨rfl,rfl,rfl⟩
 ·exact h
theorem UM (x:Wx)(d:aO b=true)(a:lY b x.n b' i f):
 jQ b' f x=dF b x/\iA b' f x=iA b (decide (0<=kK b.hl x.n)) x/\aT (eY b x) (mO b' x.n i f x):=by
 have c:=AZ d a
 have e:decide (0<=kK b.hl x.n)=f:=by
  rw[c];cases f with
  |true=>simp
  |false=>simp
 obtain⟨g,k⟩:=qD a.now a.fl a.lk f x;have l:=CU a.now a.fl a.lk x.n i f x;have m:mW b.hl x.n=i:=GK a.at'.le (λj h o=>a.at'.lo j h o) (λh=>a.at'.hi i h (nlq _));unfold dF eY;rw[e,m];exact⟨g,k,l⟩
theorem FV {b b1:Bk}(d:b1.now=b.now)(c:b1.fl=b.fl)(h:aT b.hl b1.hl)(x:Wx):dF b1 x=dF b x/\iA b1 (decide (0<=kK b1.hl x.n)) x=iA b (decide (0<=kK b.hl x.n)) x/\aT (eY b x) (eY b1 x):=by
 have f:mW b1.hl x.n=mW b.hl x.n:=by
  rw[uT,uT,h.map Hx.key (λa b e=>by simp[Hx.key,e.n,e.t,e.x])]
 unfold dF eY;rw[qH h x.n,f];exact⟨(qD d c h _ x).1,(qD d c h _ x).2,CU d c h _ _ _ x⟩
