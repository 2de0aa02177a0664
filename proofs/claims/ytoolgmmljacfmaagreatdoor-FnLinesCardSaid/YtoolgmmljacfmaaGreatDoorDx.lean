import Derived.Test.YtoolgmmljacfmaaGreatDoorFa
open List renaming length → ln
open Go.RowKit
namespace Go.Proofs.YtoolgmmljacfmaaGreatDoor
variable {b b':Bk}{nm:Ba}{i:Nat}{f:Bool}{a c:Hx}{l m:List Hx}
theorem AZ (d:aO b=true)(c:lY b nm b' i f):kK b.hl nm=if f then(i:Int)else-1:=by
 have ha:=VZ d;cases f with
 |true=>
  obtain⟨h,e⟩:=c.hd.1 rfl;exact LT h (by simpa using e) (λj a g=>Y9 (c.at'.lo j a g))
 |false=>
  refine KM (λj a=>?_);cases hq:(b.hl[j].n.toList==nm.toList)with
  |false=>rfl
  |true=>
   have e:b.hl[j].n.toList=nm.toList:=by simpa using hq
   rcases Nat.lt_trichotomy j i with h|h|h
   ·have:=Y9 (c.at'.lo j a h);rw[hq]at this;cases this
   ·subst h;exact absurd (c.hd.2 ⟨a,e⟩) sm
   ·have k:=OJ ha (i:=i) (j:=j) om a h;have m:=c.at'.hi i om (nlq _)
    have l:gE b.hl[i].n nm=true:=by
     unfold gE at k ⊢;rw[←e];exact k
    rw[m]at l;cases l
theorem B9 (took:Bool)(h:a.Like c):(kO took a).Like (kO took c):=by
 cases took with
 |true=>exact⟨h.n,h.x,rfl⟩
 |false=>exact⟨h.n,h.t,rfl⟩
theorem QP {f took:Bool}(m:aO b=true)(c:lY b nm b' i f):
 nU b' i f=cG b nm/\(qS b' i f took).now=b.now/\(qS b' i f took).fl=b.fl/\aT (dI b nm took) (qS b' i f took).hl:=by
 have a:=AZ m c;cases f with
 |false=>
  have d:nU b' i false=6:=rfl;have e:cG b nm=6:=by unfold cG;rw[a];rfl
  refine⟨d.trans e.symm,?_⟩;unfold qS dI;rw[d,e];exact⟨c.now,c.fl,c.lk⟩
 |true=>
  obtain⟨h,_⟩:=c.hd.1 rfl;have h':i<ln b'.hl:=by rw[c.lk.len];exact h
  have n:=c.lk.like i h;rw[if_pos rfl]at a;have k:b.hl[(kK b.hl nm).toNat]?=some b.hl[i]:=by rw[a];simp[lge h]
  have l:b'.hl[i]?=some b'.hl[i]:=lge h';by_cases j:b.hl[i].nl=[]
  ·have g:b'.hl[i].nl=[]:=by rw[←n.x];exact j
   have d:nU b' i true=8:=by unfold nU;rw[l];simp[g]
   have e:cG b nm=8:=by unfold cG;rw[k,a,if_neg om];simp[j]
   refine⟨d.trans e.symm,?_⟩;unfold qS dI;rw[d,e];exact⟨c.now,c.fl,c.lk⟩
  ·have g:b'.hl[i].nl≠[]:=by rw[←n.x];exact j
   have d:nU b' i true=0:=by unfold nU;rw[l];simp[g]
   have e:cG b nm=0:=by unfold cG;rw[k,a,if_neg om];simp[j]
   refine⟨d.trans e.symm,?_⟩;unfold qS dI;rw[d,e,k,l,a];exact⟨c.now,c.fl,by simpa using c.lk.set i (B9 took n)⟩
theorem qH (h:aT l m)(nm:Ba):kK m nm=kK l nm:=by
 have e:=h.map (λx=>x.n.toList) (λ_ _ g=>by rw[g.n]);have a:∀k:List Hx,k.findIdx? (λh=>h.n.toList==nm.toList)=(k.map (λx=>x.n.toList)).findIdx? (λs=>s==nm.toList):=λk=>by rw[List.findIdx?_map];rfl
 unfold kK;rw[a m,a l,e]
theorem yP {b b1:Bk}(h:aT b.hl b1.hl)(nm:Ba)(took:Bool):cG b1 nm=cG b nm/\aT (dI b nm took) (dI b1 nm took):=by
 have ha:=qH h nm;rcases nK b.hl nm with e|⟨j,a,e⟩
 ·have i:cG b nm=6:=by unfold cG;rw[e];rfl
  have k:cG b1 nm=6:=by unfold cG;rw[ha,e];rfl
  refine⟨k.trans i.symm,?_⟩;unfold dI;rw[i,k];exact h
 ·have c:j<ln b1.hl:=by rw[h.len];exact a
  have l:=h.like j a;have d:b.hl[(kK b.hl nm).toNat]?=some b.hl[j]:=by rw[e];simp[lge a]
  have f:b1.hl[(kK b1.hl nm).toNat]?=some b1.hl[j]:=by rw[ha,e];simp[lge c]
  have g:cG b1 nm=cG b nm:=by
   unfold cG;rw[d,f,ha];show(if kK b.hl nm<0 then(6:Int)else(if b1.hl[j].nl=[]then 8 else 0))=(if kK b.hl nm<0 then 6 else(if b.hl[j].nl=[]then 8 else 0));rw[l.x]
  refine⟨g,?_⟩;unfold dI;rw[g,d,f,ha];split;·exact h.set _ (B9 took l)
  ·exact h
structure K8 (now:Int)(fl:List Fx)(l:List Hx)(b:Bk):Prop where
 now:b.now=now
 fl:b.fl=fl
 lk:aT l b.hl
def hF (b:Bk):List Fx:=if aO b then b.fl else[]
theorem SO:aT [] []:=⟨rfl,λk h=>absurd h sm⟩
