import Derived.Test.YtcdbcliaepcpfaaGreatDoorDx
namespace Go.Proofs.YtcdbcliaepcpfaaGreatDoor
open Go.RowKit
theorem LS {l m:List Hx}(h:aU l m)(nm:ByteArray)(t:List Bx):jO nm t m=jO nm t l:=by
 have e:=h.map (λh=>!(tC nm h.n&&(cW t h.tl||cW t h.nl))) (λa c g=>by rw[g.n,g.t,g.x]);have a:∀k:List Hx,jO nm t k=(k.map (λh=>!(tC nm h.n&&(cW t h.tl||cW t h.nl)))).all id:=λk=>by rw[List.all_map];rfl
 rw[a m,a l,e]
theorem QG {a c:Hx}(b:List Bx)(h:a.Like c):(EH b a).Like (EH b c):=⟨h.n,h.t,rfl⟩
theorem IK {b b':Bk}(m:b'.now=b.now)(k:b'.fl=b.fl)(h:aU b.hl b'.hl)(nm:ByteArray)(i:Nat)(f:Bool)(a:List Bx):jH b' nm i f a=jH b nm i f a/\aU (lG b nm i f a) (lG b' nm i f a):=by
 have n:=LS h nm a;by_cases g:i<b.hl.length
 ·have j:i<b'.hl.length:=by rw[h.len];exact g
  have l:=h.like i g;have c:b.hl[i]?=some b.hl[i]:=lge g;have d:b'.hl[i]?=some b'.hl[i]:=lge j
  have e:jH b' nm i f a=jH b nm i f a:=by
   unfold jH;rw[m,k,n,c,d];simp only;rw[l.x]
  refine⟨e,?_⟩;unfold lG;rw[e,c,d];split;·exact h.set i (QG a l)
  ·exact h
 ·have c:b.hl[i]?=none:=List.getElem?_eq_none (by omega);have d:b'.hl[i]?=none:=List.getElem?_eq_none (by rw[h.len];omega)
  have e:jH b' nm i f a=jH b nm i f a:=by
   unfold jH;rw[m,k,c,d]
  refine⟨e,?_⟩;unfold lG;rw[e,c,d];split;·exact h
  ·exact h
theorem yR (b:Bk)(nm:ByteArray)(i:Nat)(a:List Bx):jH b nm i false a=if(aQ b.fl a&&fJ b.now a)=false then 2 else 6:=rfl
theorem yJ (b:Bk)(nm:ByteArray)(i:Nat)(a:List Bx):lG b nm i false a=b.hl:=by
 unfold lG;rw[if_neg];rw[yR];split<;>decide
theorem OV {b b':Bk}{nm:ByteArray}{i:Nat}{f:Bool}(a:List Bx)(h:aN b=true)(c:kZ b nm b' i f):
 jH b' nm i f a=dX b nm a/\aU (fX b nm a) (lG b' nm i f a):=by
 have g:=AH h c;obtain⟨j,d⟩:=IK c.now c.fl c.lk nm i f a;unfold dX fX;rw[g];cases f with
 |true=>simpa using⟨j,d⟩
 |false=>
  have e:decide ((0:Int)<=(if false=true then(i:Int)else-1))=false:=by simp
  rw[e,yJ,yR];rw[yJ,yJ]at d;rw[yJ];exact⟨j.trans (yR b nm i a),d⟩
theorem BI {b b1:Bk}(d:b1.now=b.now)(c:b1.fl=b.fl)(h:aU b.hl b1.hl)(nm:ByteArray)(a:List Bx):dX b1 nm a=dX b nm a/\aU (fX b nm a) (fX b1 nm a):=by
 unfold dX fX;rw[oT h nm];exact IK d c h nm _ _ a
end Go.Proofs.YtcdbcliaepcpfaaGreatDoor
