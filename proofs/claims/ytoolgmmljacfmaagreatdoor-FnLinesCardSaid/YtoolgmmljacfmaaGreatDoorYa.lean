import Derived.Test.YtoolgmmljacfmaaGreatDoorGh
import Derived.Test.YtoolgmmljacfmaaGreatDoorEd
import Derived.Test.YtoolgmmljacfmaaGreatDoorRp
open List renaming length → ln
open Go.RowKit
namespace Go.Proofs.YtoolgmmljacfmaaGreatDoor
variable {b:Bk}{d f m:List Fx}{c w:Int}{l:List Hx}{i j:Nat}{y n:Hx}{nm:Ba}{t:List Bx}{x e a:Wx}{v:Co}{r:List Co}
def dN (b:Bk)(now:Int)(l:List Hx):Bk:=⟨now,none,b.fl,0,none,l,0⟩
theorem tS (a b:Hx):cJ a b=cJ b a:=by
 unfold cJ;rw[jM a.tl b.tl,jM a.tl b.nl,jM a.nl b.tl,jM a.nl b.nl];cases dD b.tl a.tl<;>cases dD b.nl a.tl<;>cases dD b.tl a.nl<;>cases dD b.nl a.nl<;>rfl
theorem dQ:aO b=true↔oL b.now=true/\bU b.fl=true/\(ln b.hl)<=16/\dU b.fl b.now b.hl=true:=by
 simp only[aO,iD,bat,dte]
theorem jO:dU d c l=true↔((l.all λx=>cO x.n)=true/\l.Pairwise (λa b=>gE a.n b.n=true))/\(∀x∈l,cK d c x=true)/\l.Pairwise (λa b=>cJ a b=false):=by
 simp only[dU,bX,bat];rw[vQ,sU,lat (p:=cK d c)]
theorem CZ (h:dU f w l=true)(c:i<ln l)(d:j<ln l)(a:i≠j):cJ l[i] l[j]=false:=by
 have e:=List.pairwise_iff_getElem.1 (jO.1 h).2.2;rcases Nat.lt_or_gt_of_ne a with g|g;·exact e i j c d g
 ·rw[tS];exact e j i d c g
theorem QD (h:dU m w l=true)(d:i<ln l)(f:j<ln l)(a:i≠j):(l[i].n.toList==l[j].n.toList)=false:=by
 have k:=List.pairwise_iff_getElem.1 (jO.1 h).1.2;cases e:(l[i].n.toList==l[j].n.toList)with
 |false=>rfl
 |true=>
  have c:=eq_of_beq e;exfalso;rcases Nat.lt_or_gt_of_ne a with g|g
  ·have:=k i j d f g;unfold gE at this;rw[c,uM]at this;cases this
  ·have:=k j i f d g;unfold gE at this;rw[c,uM]at this;cases this
theorem CB (h:dU m w l=true)(f:i<ln l)(g:y.n=l[i].n)(k:cK m w y=true)(e:∀j (b:j<ln l),j≠i->cJ y l[j]=false):dU m w (l.set i y)=true:=
 TW h f g k (λj b d=>by rw[tS];exact e j b om) (λj b d=>e j b om)
theorem CQ (h:cJ y n=false):dD y.tl n.tl=false/\dD y.tl n.nl=false/\dD y.nl n.tl=false/\dD y.nl n.nl=false:=by
 simpa only[cJ,Bool.or_eq_false_iff]using h
theorem YA (hj:j<ln l)(e:kK l nm=(j:Int)):(l[j].n.toList==nm.toList)=true:=by
 unfold kK at e;cases h:l.findIdx? (λh=>h.n.toList==nm.toList)with
 |none=>rw[h]at e;simp at e
 |some i=>
  rw[h]at e;have e':(i:Int)=(j:Int):=e;have:i=j:=om;subst this;exact(List.findIdx?_eq_some_iff_getElem.1 h).2.1
theorem yD (nm:Ba)(took:Bool)(i:aO b=true):aO (dN b b.now (dI b nm took))=true:=by
 obtain⟨s,t,u,f⟩:=dQ.1 i;rcases nK b.hl nm with e|⟨j,c,e⟩
 ·have:dI b nm took=b.hl:=by simp[dI,cG,e]
  rw[this];exact i
 ·have n:b.hl[(kK b.hl nm).toNat]?=some b.hl[j]:=by rw[e];simp[c]
  have a:¬kK b.hl nm<0:=om;by_cases hx:b.hl[j].nl=[]
  ·have:dI b nm took=b.hl:=by simp[dI,cG,n,hx,a]
   rw[this];exact i
  ·have:dI b nm took=b.hl.set j (kO took b.hl[j]):=by
    unfold dI cG;rw[n,if_neg a];simp only[if_neg hx,if_true];rw[e];rfl
   rw[this];have d:=(jO.1 f).2.1 _ (lgm c);simp only[cK,bat,bot]at d;have m:b.hl[j].nl.isEmpty=true->False:=λh=>hx (List.isEmpty_iff.1 h);refine dQ.2 ⟨s,t,by simpa[dN]using u,CB f c ?_ ?_ (λk v l=>?_)⟩;·cases took<;>rfl
   ·cases took
    ·simp only[kO,cK,bat,bot];exact⟨d.1,d.2.1,.inl rfl⟩
    ·simp only[kO,cK,bat,bot];rcases d.2.2 with g|g;·exact(m g).elim
     ·exact⟨g.1,g.2,.inl rfl⟩
   ·obtain⟨o,p,q,r⟩:=CQ (CZ f c v (Ne.symm l));cases took<;>simp[kO,cJ,tV,o,p,q,r]
theorem FN (n:Int)(d:aO b=true):aO (dN b (fK b n) (eU b n))=true:=by
 obtain⟨g,h,i,j⟩:=dQ.1 d;by_cases f:n<0∨10000-b.now<n
 ·have e:cX b n=2:=if_pos f;have a:fK b n=b.now:=by simp[fK,e]
  have c:eU b n=b.hl:=by simp[eU,e]
  rw[a,c];exact d
 ·have e:cX b n=0:=if_neg f;have a:fK b n=b.now+n:=by simp[fK,e]
  have c:eU b n=kM (b.now+n) b.hl:=by simp[eU,e]
  rw[a,c];rw[oL,dte]at g;refine dQ.2 ⟨?_,h,?_,U0 j⟩
  ·show oL (b.now+n)=true;rw[oL,dte];omega
  ·refine nlt (List.length_filter_le _ _) ?_;simpa using i
theorem RX (h:kC nm t l=true)(hx:y∈l)(a:(y.n.toList==nm.toList)=false):dD t y.tl=false/\dD t y.nl=false:=by
 have:=lat.1 h y hx;simpa[tW,a]using this
theorem KQ (nm:Ba)(g:List Bx)(o:aO b=true):aO (dN b b.now (gA b nm g))=true:=by
 obtain⟨u,v,w,f⟩:=dQ.1 o;unfold gA lU;split
 ·rename_i a;rcases nK b.hl nm with e|⟨j,c,e⟩
  ·exfalso;have:decide (0<=kK b.hl nm)=false:=by rw[e];rfl
   rw[this,zR]at a;split at a<;>cases a
  ·have p:b.hl[(kK b.hl nm).toNat]?=some b.hl[j]:=by rw[e];simp[c]
   have x:decide (0<=kK b.hl nm)=true:=by rw[e];simp
   rw[p];unfold j8 at a;rw[p,x]at a;have m:=(jO.1 f).2.1 _ (lgm c);simp only[cK,bat,bot]at m;split at a;·cases a
   ·rename_i z;have l:aQ b.fl g=true/\fY b.now g=true:=by simpa using z
    simp only[if_true]at a;split at a
    ·split at a
     ·rename_i y;refine dQ.2 ⟨u,v,by simpa[dN]using w,?_⟩;show dU b.fl b.now (b.hl.set (kK b.hl nm).toNat (IE g b.hl[j]))=true;rw[e];refine CB f c rfl ?_ (λk h d=>?_)
      ·simp only[IE,cK,bat,bot];exact⟨m.1,m.2.1,.inr l⟩
      ·obtain⟨s,t,g3,g4⟩:=CQ (CZ f c h (Ne.symm d))
       have i:(b.hl[k].n.toList==nm.toList)=false:=by
        have:=QD f h c d;rwa[eq_of_beq (YA c e)]at this
       obtain⟨q,r⟩:=RX y (lgm h) i;simp[IE,cJ,s,t,q,r]
     ·cases a
    ·cases a
 ·exact o
theorem XY (h:tH b x=v::r):eR b.fl x=true/\tK b x v.d v.i v.k=true/\0<=v.d/\0<=v.i/\0<=v.k:=by
 unfold tH at h;split at h
 ·rename_i e;rw[bat]at e;have a:v∈gV b x (x.l.toNat+1):=by rw[h];simp
  simp only[gV,mS,lM,List.mem_flatMap,lmm,List.mem_filter]at a;obtain⟨d,_,i,_,k,⟨_,f⟩,rfl⟩:=a;exact⟨e.2,f,sm,sm,sm⟩
 ·cases h
theorem L7 (x:Wx)(u:aO b=true):aO (dN b b.now (eY b x))=true:=by
 obtain⟨D,F,h3,A⟩:=dQ.1 u;unfold eY mO;split
 ·rename_i m;cases hl:tH b x with
  |nil=>exact u
  |cons c r=>
   obtain⟨t,d,_⟩:=XY hl
   have p:¬0<=kK b.hl x.n:=by
    intro h;unfold jQ at m;rw[det h,t]at m;simp at m
   have h16:¬16<=ln b.hl:=by
    intro h;unfold jQ at m;rw[def0 p,t]at m;simp[h]at m
   have o:∀z∈b.hl,(z.n.toList==x.n.toList)=false:=by
    intro z k;cases e:(z.n.toList==x.n.toList)with
    |false=>rfl
    |true=>
     exfalso;apply p;unfold kK;cases hf:b.hl.findIdx? (λh=>h.n.toList==x.n.toList)with
     |none=>rw[List.findIdx?_eq_none_iff]at hf;have:=hf z k;rw[e]at this;cases this
     |some i=>simp
   simp only[tK,bat]at d;have w:=(jO.1 A).1.2
   have f:cO x.n=true:=by
    simp only[eR,bat]at t;exact t.2.1
   have q:∀l:List Hx,l.Pairwise (λa b=>gE a.n b.n=true)->(∀z∈l,(z.n.toList==x.n.toList)=false)->(∀a∈l.take (mW l x.n),gE a.n x.n=true)/\∀a∈l.drop (mW l x.n),gE x.n a.n=true:=by
    intro l;induction l with
    |nil=>intro _ _;simp[mW]
    |cons a r ih=>
     intro v k;rw[List.pairwise_cons]at v;cases ha:gE a.n x.n with
     |true=>
      obtain⟨G,H⟩:=ih v.2 (λz h=>k z (by simp[h]));have e:mW (a::r) x.n=mW r x.n+1:=by simp[mW,ha]
      rw[e];refine⟨λy j=>?_,λy j=>H y (by simpa using j)⟩;rcases lmc.1 (by simpa using j)with rfl|h;·exact ha
      ·exact G y h
     |false=>
      have e:mW (a::r) x.n=0:=by simp[mW,ha]
      have s:gE x.n a.n=true:=by
       cases hq:gE x.n a.n with
       |true=>rfl
       |false=>
        exfalso;have:=PL _ _ ha hq;have g:=k a sm;rw[this]at g;simp at g
      rw[e];refine⟨λy j=>by simp at j,λy j=>?_⟩;rcases lmc.1 (by simpa using j)with rfl|h;·exact s
      ·exact rP _ _ _ s (v.1 y h)
   obtain⟨J,K⟩:=q b.hl w o;refine dQ.2 ⟨D,F,?_,VN A f ?_ J K (λz k=>?_)⟩
   ·show(ln (b.hl.take _++HU x.n x c::b.hl.drop _))<=16;rw[lla,llc,llt,lld];omega
   ·simp only[HU,cK,bat,bot];exact⟨d.1,d.2.1,.inl rfl⟩
   ·obtain⟨B,C⟩:=RX d.2.2 k (o z k);have:cJ (HU x.n x c) z=false:=by simp[HU,cJ,tV,B,C]
    exact⟨by rw[tS];exact this,this⟩
 ·exact u
structure rK (x x':Wx):Prop where
 n:x'.n=x.n
 q:x'.q=x.q
 s:x'.s=x.s
 f:x'.f=x.f
 b:x'.b=x.b
 l:x'.l=x.l
 ll:x'.ll=x.ll
 wl:I4 x.wl x'.wl
theorem vA (h:rK x e)(d c a:Int):bL e d c a=bL x d c a:=by
 have j:iN e a=iN x a:=by unfold iN;rw[h.q,h.s,h.f,h.b]
 have k:∀(g:List Cx) (i:Int),qM e g i a=qM x g i a:=λg i=>by
  unfold qM mL;rw[h.q,h.s,h.f,h.b]
 unfold bL;rw[h.wl.len,h.ll,j,QI h.wl,k]
theorem yQ (h:rK x e)(a:List Fx):eR a e=eR a x:=by
 unfold eR n6 jD oV;rw[h.n,h.q,h.s,h.f,h.b,h.l,h.ll,h.wl.all (j9 a),h.wl.len]
theorem xF (g:rK x a)(b:Bk):tH b a=tH b x:=by
 have c:∀d i k,tK b a d i k=tK b x d i k:=λd i k=>by
  unfold tK;rw[vA g,g.n]
 have e:∀(d i:Int) (k:Nat),lM b a d i k=lM b x d i k:=λd i k=>by
  unfold lM;simp only[c]
 have f:∀(d:Int) (i:Nat),mS b a d i=mS b x d i:=λd i=>by
  unfold mS;simp only[g.ll,e]
 have h:∀n:Nat,gV b a n=gV b x n:=λn=>by
  unfold gV;simp only[g.wl.len,f]
 unfold tH;rw[yQ g,g.l,h]
theorem FT (g:rK x a)(b:Bk):dF b a=dF b x/\iA b (decide (0<=kK b.hl a.n)) a=iA b (decide (0<=kK b.hl x.n)) x/\eY b a=eY b x:=by
 have d:∀f,jQ b f a=jQ b f x:=λf=>by
  unfold jQ;rw[yQ g,xF g]
 have e:∀c:Co,HU x.n a c=HU x.n x c:=λc=>by
  unfold HU;rw[vA g]
 refine⟨?_,?_,?_⟩
 ·unfold dF;rw[g.n,d]
 ·unfold iA;rw[g.n,d,xF g]
 ·unfold eY mO;simp only[g.n,d,xF g,e]
