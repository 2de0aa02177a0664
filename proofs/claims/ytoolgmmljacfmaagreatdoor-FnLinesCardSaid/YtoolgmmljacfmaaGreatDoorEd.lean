import Derived.Test.YtoolgmmljacfmaaGreatDoorDx
open List renaming length → ln
open Go.RowKit
namespace Go.Proofs.YtoolgmmljacfmaaGreatDoor
variable {l m:List Hx}{a c:Hx}{b b':Bk}{nm:Ba}{i:Nat}{f:Bool}
theorem NJ (h:aT l m)(nm:Ba)(t:List Bx):kC nm t m=kC nm t l:=by
 have e:=h.map (λh=>!(tW nm h.n&&(dD t h.tl||dD t h.nl))) (λa c g=>by rw[g.n,g.t,g.x]);have a:∀k:List Hx,kC nm t k=(k.map (λh=>!(tW nm h.n&&(dD t h.tl||dD t h.nl)))).all id:=λk=>by rw[List.all_map];rfl
 rw[a m,a l,e]
theorem TF (b:List Bx)(h:a.Like c):(IE b a).Like (IE b c):=⟨h.n,h.t,rfl⟩
theorem L8 (m:b'.now=b.now)(k:b'.fl=b.fl)(h:aT b.hl b'.hl)(nm:Ba)(i:Nat)(f:Bool)(a:List Bx):j8 b' nm i f a=j8 b nm i f a/\aT (lU b nm i f a) (lU b' nm i f a):=by
 have n:=NJ h nm a;by_cases g:i<ln b.hl
 ·have j:i<ln b'.hl:=by rw[h.len];exact g
  have l:=h.like i g;have c:b.hl[i]?=some b.hl[i]:=lge g;have d:b'.hl[i]?=some b'.hl[i]:=lge j
  have e:j8 b' nm i f a=j8 b nm i f a:=by
   unfold j8;rw[m,k,n,c,d];simp only;rw[l.x]
  refine⟨e,?_⟩;unfold lU;rw[e,c,d];split;·exact h.set i (TF a l)
  ·exact h
 ·have c:b.hl[i]?=none:=List.getElem?_eq_none om;have d:b'.hl[i]?=none:=List.getElem?_eq_none (by rw[h.len];omega)
  have e:j8 b' nm i f a=j8 b nm i f a:=by
   unfold j8;rw[m,k,c,d]
  refine⟨e,?_⟩;unfold lU;rw[e,c,d];split;·exact h
  ·exact h
theorem zR (b:Bk)(nm:Ba)(i:Nat)(a:List Bx):j8 b nm i false a=if(aQ b.fl a&&fY b.now a)=false then 2 else 6:=rfl
theorem zZ (b:Bk)(nm:Ba)(i:Nat)(a:List Bx):lU b nm i false a=b.hl:=by
 unfold lU;rw[if_neg];rw[zR];split<;>decide
theorem U7 (a:List Bx)(h:aO b=true)(c:lY b nm b' i f):
 j8 b' nm i f a=dX b nm a/\aT (gA b nm a) (lU b' nm i f a):=by
 have g:=AZ h c;obtain⟨j,d⟩:=L8 c.now c.fl c.lk nm i f a;unfold dX gA;rw[g];cases f with
 |true=>simpa using⟨j,d⟩
 |false=>
  have e:decide ((0:Int)<=(if false=true then(i:Int)else-1))=false:=by simp
  rw[e,zZ,zR];rw[zZ,zZ]at d;rw[zZ];exact⟨j.trans (zR b nm i a),d⟩
theorem A6 {b b1:Bk}(d:b1.now=b.now)(c:b1.fl=b.fl)(h:aT b.hl b1.hl)(nm:Ba)(a:List Bx):dX b1 nm a=dX b nm a/\aT (gA b nm a) (gA b1 nm a):=by
 unfold dX gA;rw[qH h nm];exact L8 d c h nm _ _ a
