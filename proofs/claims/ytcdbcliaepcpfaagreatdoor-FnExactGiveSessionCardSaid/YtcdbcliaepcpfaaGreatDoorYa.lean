import Derived.Test.YtcdbcliaepcpfaaGreatDoorGh
import Derived.Test.YtcdbcliaepcpfaaGreatDoorEd
import Derived.Test.YtcdbcliaepcpfaaGreatDoorRq
namespace Go.Proofs.YtcdbcliaepcpfaaGreatDoor
open Go.RowKit
def dM (b:Bk)(now:Int)(l:List Hx):Bk:=⟨now,none,b.fl,0,none,l,0⟩
theorem tJ (a b:Hx):cA a b=cA b a:=by
 unfold cA;rw[iV a.tl b.tl,iV a.tl b.nl,iV a.nl b.tl,iV a.nl b.nl];cases cW b.tl a.tl<;>cases cW b.nl a.tl<;>cases cW b.tl a.nl<;>cases cW b.nl a.nl<;>rfl
theorem eN {b:Bk}:aN b=true↔nT b.now=true/\cB b.fl=true/\b.hl.length<=16/\dN b.fl b.now b.hl=true:=by
 simp only[aN,gA,bat,dte]
theorem iT {d:List Fx}{c:Int}{l:List Hx}:dN d c l=true↔((l.all λx=>cS x.n)=true/\l.Pairwise (λa b=>fY a.n b.n=true))/\(∀x∈l,cI d c x=true)/\l.Pairwise (λa b=>cA a b=false):=by
 simp only[dN,bV,bat];rw[uU,rP,lat (p:=cI d c)]
theorem A6 {f:List Fx}{b:Int}{l:List Hx}(h:dN f b l=true){i j:Nat}(c:i<l.length)(d:j<l.length)(a:i≠j):cA l[i] l[j]=false:=by
 have e:=List.pairwise_iff_getElem.1 (iT.1 h).2.2;rcases Nat.lt_or_gt_of_ne a with g|g;·exact e i j c d g
 ·rw[tJ];exact e j i d c g
theorem MA {m:List Fx}{b:Int}{l:List Hx}(h:dN m b l=true){i j:Nat}(d:i<l.length)(f:j<l.length)(a:i≠j):(l[i].n.toList==l[j].n.toList)=false:=by
 have k:=List.pairwise_iff_getElem.1 (iT.1 h).1.2;cases e:(l[i].n.toList==l[j].n.toList)with
 |false=>rfl
 |true=>
  have c:=eq_of_beq e;exfalso;rcases Nat.lt_or_gt_of_ne a with g|g
  ·have:=k i j d f g;unfold fY at this;rw[c,sM]at this;cases this
  ·have:=k j i f d g;unfold fY at this;rw[c,sM]at this;cases this
theorem zU {c:List Fx}{a:Int}{l:List Hx}{i:Nat}{y:Hx}(h:dN c a l=true)(f:i<l.length)(g:y.n=l[i].n)(k:cI c a y=true)(e:∀j (b:j<l.length),j≠i->cA y l[j]=false):dN c a (l.set i y)=true:=
 O8 h f g k (λj b d=>by rw[tJ];exact e j b (by omega)) (λj b d=>e j b (by omega))
theorem BH {a b:Hx}(h:cA a b=false):cW a.tl b.tl=false/\cW a.tl b.nl=false/\cW a.nl b.tl=false/\cW a.nl b.nl=false:=by
 simpa only[cA,Bool.or_eq_false_iff]using h
theorem U0 {l:List Hx}{nm:ByteArray}{j:Nat}(hj:j<l.length)(e:j8 l nm=(j:Int)):(l[j].n.toList==nm.toList)=true:=by
 unfold j8 at e;cases h:l.findIdx? (λh=>h.n.toList==nm.toList)with
 |none=>rw[h]at e;simp at e
 |some i=>
  rw[h]at e;have e':(i:Int)=(j:Int):=e;have:i=j:=by omega
  subst this;exact(List.findIdx?_eq_some_iff_getElem.1 h).2.1
theorem D6 {b:Bk}(nm:ByteArray)(took:Bool)(i:aN b=true):aN (dM b b.now (dK b nm took))=true:=by
 obtain⟨s,t,u,f⟩:=eN.1 i;rcases mP b.hl nm with e|⟨j,c,e⟩
 ·have:dK b nm took=b.hl:=by simp[dK,cJ,e]
  rw[this];exact i
 ·have n:b.hl[(j8 b.hl nm).toNat]?=some b.hl[j]:=by rw[e];simp[c]
  have a:¬j8 b.hl nm<0:=by omega
  by_cases hx:b.hl[j].nl=[]
  ·have:dK b nm took=b.hl:=by simp[dK,cJ,n,hx,a]
   rw[this];exact i
  ·have:dK b nm took=b.hl.set j (j7 took b.hl[j]):=by
    unfold dK cJ;rw[n,if_neg a];simp only[if_neg hx,if_true];rw[e];rfl
   rw[this];have d:=(iT.1 f).2.1 _ (lgm c);simp only[cI,bat,Bool.or_eq_true]at d;have m:b.hl[j].nl.isEmpty=true->False:=λh=>hx (List.isEmpty_iff.1 h);refine eN.2 ⟨s,t,by simpa[dM]using u,zU f c ?_ ?_ (λk v l=>?_)⟩;·cases took<;>rfl
   ·cases took
    ·simp only[j7,cI,bat,Bool.or_eq_true];exact⟨d.1,d.2.1,.inl rfl⟩
    ·simp only[j7,cI,bat,Bool.or_eq_true];rcases d.2.2 with g|g;·exact(m g).elim
     ·exact⟨g.1,g.2,.inl rfl⟩
   ·obtain⟨o,p,q,r⟩:=BH (A6 f c v (Ne.symm l));cases took<;>simp[j7,cA,sU,o,p,q,r]
theorem PR {b:Bk}(n:Int)(d:aN b=true):aN (dM b (fF b n) (eR b n))=true:=by
 obtain⟨g,h,i,j⟩:=eN.1 d;by_cases f:n<0∨10000-b.now<n
 ·have e:cV b n=2:=if_pos f;have a:fF b n=b.now:=by simp[fF,e]
  have c:eR b n=b.hl:=by simp[eR,e]
  rw[a,c];exact d
 ·have e:cV b n=0:=if_neg f;have a:fF b n=b.now+n:=by simp[fF,e]
  have c:eR b n=j6 (b.now+n) b.hl:=by simp[eR,e]
  rw[a,c];rw[nT,dte]at g;refine eN.2 ⟨?_,h,?_,QL j⟩
  ·show nT (b.now+n)=true;rw[nT,dte];omega
  ·refine Nat.le_trans (List.length_filter_le _ _) ?_;simpa using i
theorem OM {nm:ByteArray}{t:List Bx}{l:List Hx}(h:jO nm t l=true){x:Hx}(hx:x∈l)(a:(x.n.toList==nm.toList)=false):cW t x.tl=false/\cW t x.nl=false:=by
 have:=lat.1 h x hx;simpa[tC,a]using this
theorem SH {b:Bk}(nm:ByteArray)(g:List Bx)(o:aN b=true):aN (dM b b.now (fX b nm g))=true:=by
 obtain⟨u,v,w,f⟩:=eN.1 o;unfold fX lG;split
 ·rename_i a;rcases mP b.hl nm with e|⟨j,c,e⟩
  ·exfalso;have:decide (0<=j8 b.hl nm)=false:=by rw[e];rfl
   rw[this,yR]at a;split at a<;>cases a
  ·have p:b.hl[(j8 b.hl nm).toNat]?=some b.hl[j]:=by rw[e];simp[c]
   have x:decide (0<=j8 b.hl nm)=true:=by rw[e];simp
   rw[p];unfold jH at a;rw[p,x]at a;have m:=(iT.1 f).2.1 _ (lgm c);simp only[cI,bat,Bool.or_eq_true]at m;split at a;·cases a
   ·rename_i z;have l:aQ b.fl g=true/\fJ b.now g=true:=by simpa using z
    simp only[if_true]at a;split at a
    ·split at a
     ·rename_i y;refine eN.2 ⟨u,v,by simpa[dM]using w,?_⟩;show dN b.fl b.now (b.hl.set (j8 b.hl nm).toNat (EH g b.hl[j]))=true;rw[e];refine zU f c rfl ?_ (λk h d=>?_)
      ·simp only[EH,cI,bat,Bool.or_eq_true];exact⟨m.1,m.2.1,.inr l⟩
      ·obtain⟨s,t,g3,g4⟩:=BH (A6 f c h (Ne.symm d))
       have i:(b.hl[k].n.toList==nm.toList)=false:=by
        have:=MA f h c d;rwa[eq_of_beq (U0 c e)]at this
       obtain⟨q,r⟩:=OM y (lgm h) i;simp[EH,cA,s,t,q,r]
     ·cases a
    ·cases a
 ·exact o
theorem ST {b:Bk}{x:Wx}{c:Co}{r:List Co}(h:sA b x=c::r):eJ b.fl x=true/\rX b x c.d c.i c.k=true/\0<=c.d/\0<=c.i/\0<=c.k:=by
 unfold sA at h;split at h
 ·rename_i e;rw[bat]at e;have a:c∈gK b x (x.l.toNat+1):=by rw[h];simp
  simp only[gK,lZ,lE,List.mem_flatMap,List.mem_map,List.mem_filter]at a;obtain⟨d,_,i,_,k,⟨_,f⟩,rfl⟩:=a;exact⟨e.2,f,by simp,by simp,by simp⟩
 ·cases h
theorem US {b:Bk}(x:Wx)(u:aN b=true):aN (dM b b.now (eU b x))=true:=by
 obtain⟨D,E,h3,A⟩:=eN.1 u;unfold eU l3;split
 ·rename_i m;cases hl:sA b x with
  |nil=>exact u
  |cons c r=>
   obtain⟨t,d,_⟩:=ST hl
   have p:¬0<=j8 b.hl x.n:=by
    intro h;unfold iX at m;rw[decide_eq_true h,t]at m;simp at m
   have h16:¬16<=b.hl.length:=by
    intro h;unfold iX at m;rw[decide_eq_false p,t]at m;simp[h]at m
   have o:∀z∈b.hl,(z.n.toList==x.n.toList)=false:=by
    intro z k;cases e:(z.n.toList==x.n.toList)with
    |false=>rfl
    |true=>
     exfalso;apply p;unfold j8;cases hf:b.hl.findIdx? (λh=>h.n.toList==x.n.toList)with
     |none=>rw[List.findIdx?_eq_none_iff]at hf;have:=hf z k;rw[e]at this;cases this
     |some i=>simp
   simp only[rX,bat]at d;have w:=(iT.1 A).1.2
   have f:cS x.n=true:=by
    simp only[eJ,bat]at t;exact t.2.1
   have q:∀l:List Hx,l.Pairwise (λa b=>fY a.n b.n=true)->(∀z∈l,(z.n.toList==x.n.toList)=false)->(∀a∈l.take (l4 l x.n),fY a.n x.n=true)/\∀a∈l.drop (l4 l x.n),fY x.n a.n=true:=by
    intro l;induction l with
    |nil=>intro _ _;simp[l4]
    |cons a r ih=>
     intro v k;rw[List.pairwise_cons]at v;cases ha:fY a.n x.n with
     |true=>
      obtain⟨F,G⟩:=ih v.2 (λz h=>k z (by simp[h]));have e:l4 (a::r) x.n=l4 r x.n+1:=by simp[l4,ha]
      rw[e];refine⟨λy j=>?_,λy j=>G y (by simpa using j)⟩;rcases List.mem_cons.1 (by simpa using j)with rfl|h;·exact ha
      ·exact F y h
     |false=>
      have e:l4 (a::r) x.n=0:=by simp[l4,ha]
      have s:fY x.n a.n=true:=by
       cases hq:fY x.n a.n with
       |true=>rfl
       |false=>
        exfalso;have:=L0 _ _ ha hq;have g:=k a (by simp);rw[this]at g;simp at g
      rw[e];refine⟨λy j=>by simp at j,λy j=>?_⟩;rcases List.mem_cons.1 (by simpa using j)with rfl|h;·exact s
      ·exact pV _ _ _ s (v.1 y h)
   obtain⟨H,I⟩:=q b.hl w o;refine eN.2 ⟨D,E,?_,RR A f ?_ H I (λz k=>?_)⟩
   ·show(b.hl.take _++GJ x.n x c::b.hl.drop _).length<=16;rw[List.length_append,llc,List.length_take,List.length_drop];omega
   ·simp only[GJ,cI,bat,Bool.or_eq_true];exact⟨d.1,d.2.1,.inl rfl⟩
   ·obtain⟨B,C⟩:=OM d.2.2 k (o z k);have:cA (GJ x.n x c) z=false:=by simp[GJ,cA,sU,B,C]
    exact⟨by rw[tJ];exact this,this⟩
 ·exact u
structure qK (x x':Wx):Prop where
 n:x'.n=x.n
 q:x'.q=x.q
 s:x'.s=x.s
 f:x'.f=x.f
 b:x'.b=x.b
 l:x'.l=x.l
 ll:x'.ll=x.ll
 wl:E8 x.wl x'.wl
theorem uH {x e:Wx}(h:qK x e)(d c a:Int):bM e d c a=bM x d c a:=by
 have j:iC e a=iC x a:=by unfold iC;rw[h.q,h.s,h.f,h.b]
 have k:∀(g:List Cx) (i:Int),pX e g i a=pX x g i a:=λg i=>by
  unfold pX lU;rw[h.q,h.s,h.f,h.b]
 unfold bM;rw[h.wl.len,h.ll,j,K2 h.wl,k]
theorem wX {x c:Wx}(h:qK x c)(a:List Fx):eJ a c=eJ a x:=by
 unfold eJ nM iN n9;rw[h.n,h.q,h.s,h.f,h.b,h.l,h.ll,h.wl.all (jI a),h.wl.len]
theorem vL {x a:Wx}(g:qK x a)(b:Bk):sA b a=sA b x:=by
 have c:∀d i k,rX b a d i k=rX b x d i k:=λd i k=>by
  unfold rX;rw[uH g,g.n]
 have e:∀(d i:Int) (k:Nat),lE b a d i k=lE b x d i k:=λd i k=>by
  unfold lE;simp only[c]
 have f:∀(d:Int) (i:Nat),lZ b a d i=lZ b x d i:=λd i=>by
  unfold lZ;simp only[g.ll,e]
 have h:∀n:Nat,gK b a n=gK b x n:=λn=>by
  unfold gK;simp only[g.wl.len,f]
 unfold sA;rw[wX g,g.l,h]
theorem C9 {x a:Wx}(g:qK x a)(b:Bk):dL b a=dL b x/\gX b (decide (0<=j8 b.hl a.n)) a=gX b (decide (0<=j8 b.hl x.n)) x/\eU b a=eU b x:=by
 have d:∀f,iX b f a=iX b f x:=λf=>by
  unfold iX;rw[wX g,vL g]
 have e:∀c:Co,GJ x.n a c=GJ x.n x c:=λc=>by
  unfold GJ;rw[uH g]
 refine⟨?_,?_,?_⟩
 ·unfold dL;rw[g.n,d]
 ·unfold gX;rw[g.n,d,vL g]
 ·unfold eU l3;simp only[g.n,d,vL g,e]
end Go.Proofs.YtcdbcliaepcpfaaGreatDoor
