import Derived.Test.YtcdbcliaepcpfaaGreatDoorFa
namespace Go.Proofs.YtcdbcliaepcpfaaGreatDoor
open Go.RowKit
theorem AH {b b':Bk}{nm:ByteArray}{i:Nat}{f:Bool}(d:aN b=true)(c:kZ b nm b' i f):j8 b.hl nm=if f then(i:Int)else-1:=by
 have ha:=UZ d;cases f with
 |true=>
  obtain⟨h,e⟩:=c.hd.1 rfl;exact KN h (by simpa using e) (λj a g=>UF (c.at'.lo j a g))
 |false=>
  refine KD (λj a=>?_);cases hq:(b.hl[j].n.toList==nm.toList)with
  |false=>rfl
  |true=>
   have e:b.hl[j].n.toList=nm.toList:=by simpa using hq
   rcases Nat.lt_trichotomy j i with h|h|h
   ·have:=UF (c.at'.lo j a h);rw[hq]at this;cases this
   ·subst h;exact absurd (c.hd.2 ⟨a,e⟩) (by simp)
   ·have k:=LO ha (i:=i) (j:=j) (by omega) a h;have m:=c.at'.hi i (by omega) (nlq _)
    have l:fY b.hl[i].n nm=true:=by
     unfold fY at k ⊢;rw[←e];exact k
    rw[m]at l;cases l
theorem BE {a c:Hx}(took:Bool)(h:a.Like c):(j7 took a).Like (j7 took c):=by
 cases took with
 |true=>exact⟨h.n,h.x,rfl⟩
 |false=>exact⟨h.n,h.t,rfl⟩
theorem MJ {b b':Bk}{nm:ByteArray}{i:Nat}{f took:Bool}(m:aN b=true)(c:kZ b nm b' i f):
 mW b' i f=cJ b nm/\(pL b' i f took).now=b.now/\(pL b' i f took).fl=b.fl/\aU (dK b nm took) (pL b' i f took).hl:=by
 have a:=AH m c;cases f with
 |false=>
  have d:mW b' i false=6:=rfl;have e:cJ b nm=6:=by unfold cJ;rw[a];rfl
  refine⟨d.trans e.symm,?_⟩;unfold pL dK;rw[d,e];exact⟨c.now,c.fl,c.lk⟩
 |true=>
  obtain⟨h,_⟩:=c.hd.1 rfl;have h':i<b'.hl.length:=by rw[c.lk.len];exact h
  have n:=c.lk.like i h;rw[if_pos rfl]at a;have k:b.hl[(j8 b.hl nm).toNat]?=some b.hl[i]:=by rw[a];simp[lge h]
  have l:b'.hl[i]?=some b'.hl[i]:=lge h';by_cases j:b.hl[i].nl=[]
  ·have g:b'.hl[i].nl=[]:=by rw[←n.x];exact j
   have d:mW b' i true=8:=by unfold mW;rw[l];simp[g]
   have e:cJ b nm=8:=by unfold cJ;rw[k,a,if_neg (by omega)];simp[j]
   refine⟨d.trans e.symm,?_⟩;unfold pL dK;rw[d,e];exact⟨c.now,c.fl,c.lk⟩
  ·have g:b'.hl[i].nl≠[]:=by rw[←n.x];exact j
   have d:mW b' i true=0:=by unfold mW;rw[l];simp[g]
   have e:cJ b nm=0:=by unfold cJ;rw[k,a,if_neg (by omega)];simp[j]
   refine⟨d.trans e.symm,?_⟩;unfold pL dK;rw[d,e,k,l,a];exact⟨c.now,c.fl,by simpa using c.lk.set i (BE took n)⟩
theorem oT {l m:List Hx}(h:aU l m)(nm:ByteArray):j8 m nm=j8 l nm:=by
 have e:=h.map (λx=>x.n.toList) (λ_ _ g=>by rw[g.n]);have a:∀k:List Hx,k.findIdx? (λh=>h.n.toList==nm.toList)=(k.map (λx=>x.n.toList)).findIdx? (λs=>s==nm.toList):=λk=>by rw[List.findIdx?_map];rfl
 unfold j8;rw[a m,a l,e]
theorem xQ {b b1:Bk}(h:aU b.hl b1.hl)(nm:ByteArray)(took:Bool):cJ b1 nm=cJ b nm/\aU (dK b nm took) (dK b1 nm took):=by
 have ha:=oT h nm;rcases mP b.hl nm with e|⟨j,a,e⟩
 ·have i:cJ b nm=6:=by unfold cJ;rw[e];rfl
  have k:cJ b1 nm=6:=by unfold cJ;rw[ha,e];rfl
  refine⟨k.trans i.symm,?_⟩;unfold dK;rw[i,k];exact h
 ·have c:j<b1.hl.length:=by rw[h.len];exact a
  have l:=h.like j a;have d:b.hl[(j8 b.hl nm).toNat]?=some b.hl[j]:=by rw[e];simp[lge a]
  have f:b1.hl[(j8 b1.hl nm).toNat]?=some b1.hl[j]:=by rw[ha,e];simp[lge c]
  have g:cJ b1 nm=cJ b nm:=by
   unfold cJ;rw[d,f,ha];show(if j8 b.hl nm<0 then(6:Int)else(if b1.hl[j].nl=[]then 8 else 0))=(if j8 b.hl nm<0 then 6 else(if b.hl[j].nl=[]then 8 else 0));rw[l.x]
  refine⟨g,?_⟩;unfold dK;rw[g,d,f,ha];split;·exact h.set _ (BE took l)
  ·exact h
structure KE (now:Int)(fl:List Fx)(l:List Hx)(b:Bk):Prop where
 now:b.now=now
 fl:b.fl=fl
 lk:aU l b.hl
def hF (b:Bk):List Fx:=if aN b then b.fl else[]
theorem QU:aU [] []:=⟨rfl,λk h=>absurd h (by simp)⟩
end Go.Proofs.YtcdbcliaepcpfaaGreatDoor
