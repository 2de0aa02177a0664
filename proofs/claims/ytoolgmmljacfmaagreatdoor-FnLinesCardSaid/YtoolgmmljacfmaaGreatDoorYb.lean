import Derived.Test.YtoolgmmljacfmaaGreatDoorYa
import Derived.Test.YtoolgmmljacfmaaGreatDoorXh
set_option maxRecDepth 100000
set_option maxHeartbeats 8000000
open List renaming length → ln
open Go.RowKit
namespace Go.Proofs.YtoolgmmljacfmaaGreatDoor
variable {nm:Ba}{t:List Bx}{a:Int}{l:List Sp}{k w:Nat}
structure St where
 b:Bk
 t:List Bx
abbrev dR:ByteArray:=⟨#[98,97,100]⟩
abbrev VW:ByteArray:=⟨#[111,107]⟩
abbrev sNo:ByteArray:=⟨#[110,111]⟩
abbrev sSp:ByteArray:=⟨#[32]⟩
abbrev sLf:ByteArray:=⟨#[10]⟩
abbrev WC:ByteArray:=⟨#[45]⟩
def qC (l:List Fx)(nm:ByteArray):Nat:=(l.takeWhile (λg=>gE g.n nm)).length
def gY (l:List Fx)(f:Fx):List Fx:=l.take (qC l f.n)++f::l.drop (qC l f.n)
def gR (b:Bk)(f:Fx):Bk:=⟨b.now,none,gY b.fl f,0,none,b.hl,0⟩
def gH (s:St):List ByteArray->St×ByteArray
 |[nm,x,y]=>if j7 [x,y]then(if aO (gR s.b ⟨nm,aV x,aV y⟩)then(⟨gR s.b ⟨nm,aV x,aV y⟩,s.t⟩,VW)else(s,sNo))else(s,dR)
 |_=>(s,dR)
def wL (nm q sl f b l:ByteArray)(lv:List ByteArray)(cs:List (List Cx)):Wx:=⟨nm,aV q,aV sl,aV f,aV b,aV l,none,cs.map (λc=>⟨none,c,0⟩),0,none,aS lv,0⟩
def AA:List Co->ByteArray
 |[]=>⟨#[]⟩
 |c::_=>⟨#[108,97,116,101,32]⟩++dH c.d++⟨#[32,119,97,121,32]⟩++dH c.i++⟨#[32,108,101,118,101,108,32]⟩++dH c.k
def oI (s:St)(x:Wx):St×ByteArray:=(⟨dN s.b s.b.now (eY s.b x),s.t⟩,if dF s.b x=0 then AA (tH s.b x)else jC (dF s.b x))
def k8 (s:St):List ByteArray->St×ByteArray
 |nm::q::sl::f::b::l::lv::y::ys=>
  if j7 [q,sl,f,b,l]&&j7 (bG 44 lv)then(match fV (y::ys)with|some cs=>oI s (wL nm q sl f b l (bG 44 lv) cs)|none=>(s,dR))else(s,dR)
 |_=>(s,dR)
def vB (s:St):List ByteArray->St×ByteArray
 |[a,b,c,d,e,f]=>if j7 [a,b,c,d,e,f]then(⟨s.b,s.t++[⟨aV a,aV b,aV c,aV d,aV e,aV f⟩]⟩,VW)else(s,dR)
 |_=>(s,dR)
def rW (s:St):List ByteArray->St×ByteArray
 |[nm]=>(⟨dN s.b s.b.now (gA s.b nm s.t),[]⟩,jC (dX s.b nm s.t))
 |_=>(s,dR)
def n9 (took:Bool)(s:St):List ByteArray->St×ByteArray
 |[nm]=>(⟨dN s.b s.b.now (dI s.b nm took),s.t⟩,jC (cG s.b nm))
 |_=>(s,dR)
def mZ (s:St):List ByteArray->St×ByteArray
 |[n]=>if 0<=aV n then(⟨dN s.b (fK s.b (aV n)) (eU s.b (aV n)),s.t⟩,jC (cX s.b (aV n)))else(s,dR)
 |_=>(s,dR)
def mY (o:ByteArray)(h:Hx):ByteArray:=o++sSp++h.n++⟨#[58]⟩++iS h.tl++⟨#[47]⟩++iS h.nl
def rC (b:Bk):ByteArray:=b.hl.foldl mY (dH b.now)
def yK (s:St):List ByteArray->St×ByteArray
 |[]=>(s,rC s.b)
 |_=>(s,dR)
open Classical in
noncomputable def oX (b:Bk)(nm:ByteArray)(t:List Bx)(most:Int):List Sp:=if∃l,eV b nm t most l then Classical.epsilon λl=>eV b nm t most l else[]
open Classical in
noncomputable def qO (b:Bk)(nm:ByteArray)(t:List Bx)(most:Int):Option Int:=if∃o,eG b nm t most o then Classical.epsilon λo=>eG b nm t most o else none
theorem DE {b:Bk}(h:eV b nm t a l):oX b nm t a=l:=by
 unfold oX;rw[if_pos ⟨l,h⟩];exact(Classical.epsilon_spec (p:=λl=>eV b nm t a l) ⟨l,h⟩).uniq h
theorem DJ {b:Bk}{o:Option Int}(h:eG b nm t a o):qO b nm t a=o:=by
 unfold qO;rw[if_pos ⟨o,h⟩];exact(Classical.epsilon_spec (p:=λo=>eG b nm t a o) ⟨o,h⟩).uniq h
theorem V2 (b:Bk)(nm:Ba)(t:List Bx)(a:Int):eV b nm t a (oX b nm t a)∨oX b nm t a=[]:=by
 by_cases h:∃l,eV b nm t a l
 ·obtain⟨l,h⟩:=h;rw[DE h];exact .inl h
 ·exact .inr (if_neg h)
theorem Y7 (b:Bk)(nm:Ba)(t:List Bx)(a:Int):eG b nm t a (qO b nm t a)∨qO b nm t a=none:=by
 by_cases h:∃l,eG b nm t a l
 ·obtain⟨l,h⟩:=h;rw[DJ h];exact .inl h
 ·exact .inr (if_neg h)
def nB (o:ByteArray)(p:Sp):ByteArray:=o++dH p.lo++WC++dH p.hi++sSp
def RH (s:ByteArray):Option Int->ByteArray
 |none=>s++⟨#[110,101,118,101,114]⟩
 |some d=>s++⟨#[102,114,101,101,32]⟩++dH d
noncomputable def nO (b:Bk)(nm:ByteArray)(t:List Bx)(most:Int):ByteArray:=RH ((oX b nm t most).foldl nB ⟨#[]⟩) (qO b nm t most)
noncomputable def oC (s:St):List ByteArray->St×ByteArray
 |[nm,m]=>if 0<=aV m then(s,nO s.b nm s.t (aV m))else(s,dR)
 |_=>(s,dR)
abbrev pV:List UInt8:=[102,105,101,108,100]
abbrev vU:List UInt8:=[119,105,115,104]
abbrev JD:List UInt8:=[98,111,120]
abbrev pJ:List UInt8:=[97,109,101,110,100]
abbrev uZ:List UInt8:=[116,111,111,107]
abbrev GH:List UInt8:=[114,101,102,117,115,101,100]
abbrev wB:List UInt8:=[116,105,99,107]
abbrev vI:List UInt8:=[104,101,108,100]
abbrev wT:List UInt8:=[98,97,114,115]
noncomputable def aX (s:St):List ByteArray->St×ByteArray
 |[]=>(s,dR)
 |n::a=>if n.toList=pV then gH s a else if n.toList=vU then k8 s a else if n.toList=JD then vB s a else if n.toList=pJ then rW s a else
  if n.toList=uZ then n9 true s a else if n.toList=GH then n9 false s a else if n.toList=wB then mZ s a else if n.toList=vI then yK s a else if n.toList=wT then oC s a else(s,dR)
structure jF (k:Nat)(s:St):Prop where
 b:aO s.b=true
 t:s.t.length<=k
theorem jF.mono {s:St}(h:jF k s)(hk:k<=w):jF w s:=⟨h.b,by have:=h.t;omega⟩
theorem aAI {s:St}(h:jF k s)(d:List Ba):jF (k+1) (aX s d).1:=by
 have a:jF (k+1) s:=h.mono om;have ht:=h.t;unfold aX;split;·exact a
 ·split
  ·unfold gH;split
   ·split
    ·split;·rename_i c;exact⟨c,by show(ln s.t)<=_;omega⟩
     ·exact a
    ·exact a
   ·exact a
  ·split
   ·unfold k8;split
    ·split
     ·split;·exact⟨L7 _ h.b,by show(ln s.t)<=_;omega⟩
      ·exact a
     ·exact a
    ·exact a
   ·split
    ·unfold vB;split
     ·split;·exact⟨h.b,by show(ln (s.t++[_]))<=_;simp;omega⟩
      ·exact a
     ·exact a
    ·split
     ·unfold rW;split;·exact⟨KQ _ _ h.b,by show(ln ([]:List Bx))<=_;simp⟩
      ·exact a
     ·split
      ·unfold n9;split;·exact⟨yD _ _ h.b,by show(ln s.t)<=_;omega⟩
       ·exact a
      ·split
       ·unfold n9;split;·exact⟨yD _ _ h.b,by show(ln s.t)<=_;omega⟩
        ·exact a
       ·split
        ·unfold mZ;split
         ·split;·exact⟨FN _ h.b,by show(ln s.t)<=_;omega⟩
          ·exact a
         ·exact a
        ·split
         ·unfold yK;split<;>exact a
         ·split
          ·unfold oC;split;·split<;>exact a
           ·exact a
          ·exact a
open Go.BigFrame
variable {S:Nat → Prop}{w w':Wd}{s b:Bk}{a:List Fx}{l:List Bx}{z n c:Nat}{k:Oa}
structure BkIn (w:World)(b:Bk):Prop where
 f:Xs 3 Fx.cells w b.fa b.fl
 h:Xs 3 Hx.cells w b.ha b.hl
 i:∀h∈b.hl,h.In w
structure eI (S:Nat->Prop)(w:World)(s b:Bk):Prop where
 c:K8 s.now s.fl s.hl b
 i:∀w',aU S w w'->BkIn w' b
 f1:b.fl.length<=b.fc
 f2:b.fc<=9223372036854775807
theorem eI.but (h:eI S w s b)(d:aU S w w'):eI S w' s b:=⟨h.c,λe a=>h.i e (d.trans a),h.f1,h.f2⟩
theorem eI.zL {w w':Wd}(h:eI S w s b)(a:aG w w'):eI S w' s b:=h.but (aU.below a)
theorem eI.inn (h:eI S w s b):BkIn w b:=h.i w (aU.refl _ _)
theorem eI.book (h:eI S w s b):aO b=aO s:=nS h.c.now h.c.fl h.c.lk
theorem CI (h:aQ a l=true):ln l<=40:=by
 simp only[aQ,bat]at h;have:=h.1;simp[oO]at this;omega
theorem vN (h:aO b=true):∀x∈b.hl,x.Fit/\(ln x.tl)<=40/\(ln x.nl)<=40/\x.n.size<=8/\(∀y∈x.tl,aK y=true)/\(∀y∈x.nl,aK y=true):=λx hx=>by
 obtain⟨_,_,_,c⟩:=dQ.1 h;have e:=lat.1 (jO.1 c).1.1 x hx;have a:=(jO.1 c).2.1 x hx;have d:=rI a;simp only[cK,bat,bot]at a;simp only[cO,wI,bat,dte]at e;have f:=CI a.1
 have i:ln x.nl<=40:=by
  rcases a.2.2 with g|g;·rw[List.isEmpty_iff.1 g];simp
  ·exact CI g.1
 exact⟨⟨om,om,om⟩,f,i,e.1.2,lat.1 d.t,lat.1 d.n⟩
theorem IF (h:aO b=true):ln b.fl<=4/\∀f∈b.fl,f.n.size<=8:=by
 obtain⟨_,a,_,_⟩:=dQ.1 h;simp only[bU,bX,bat,dte]at a;refine⟨a.1,λf c=>?_⟩;have:=lat.1 a.2.1.1 f c;simp only[cO,wI,bat,dte]at this;exact this.1.2
theorem eI.asks (h:eI S w s b)(d:aO s=true):iX w b:=by
 have a:aO b=true:=h.book.trans d;obtain⟨f1,c⟩:=IF a;have:=kD a;exact⟨h.inn.f,om,h.f1,h.f2,λf e=>by have:=c f e;omega,h.inn.h,om,λx hx=>⟨h.inn.i x hx,(vN a x hx).1⟩⟩
theorem eI.ok (h:eI S w s b)(c:aO s=true):pQ b w:=λ_ a=>pX ((h.asks c).zL a) _ rfl
theorem LP (h:aN w z (.slice k n c) l):∀x,k=some x->z<=x.block:=λx hx=>by
 rcases h with⟨e,_⟩|⟨g,cap,e,b,_⟩;·cases e;cases hx
 ·cases e;cases hx;exact b
theorem dS.stay (h:dS z w b)(c:∀k,S k->k<z):∀w',aU S w w'->BkIn w' b:=λw' d=>
 ⟨(h.f.but d c).xs Fx.cells_length,(h.h.but d c).xs Hx.cells_length,λx hx=>⟨((h.t x hx).t.but d (λa e g=>by have:=LP (h.t x hx).t a e;have:=c _ g;omega)).xs,((h.t x hx).n.but d (λa e g=>by have:=LP (h.t x hx).n a e;have:=c _ g;omega)).xs⟩⟩
theorem dS.at (h:dS z w b)(l:∀k,S k->k<z)(m:K8 s.now s.fl s.hl b):eI S w s b:=
 ⟨m,h.stay l,by
  rcases h.f with⟨e,d⟩|⟨g,a,e,_,i,_⟩;·rw[d];exact nz _
  ·have j:b.fc=a:=by injection e
   rw[j];exact i,h.c _ _ _ rfl⟩
theorem iI.spS (h:iI z w b):dS z w b:=⟨h.f,h.h,h.t,λa n c e=>by cases e;exact h.cf⟩
theorem FJ {S S':Nat->Prop}(h:eI S w s b)(d:aO s=true)(nm:Ba)(took:Bool)(p:∀k,S' k->k<w.heap.size):
 aW 29 #[b.val,.string nm,.bool took] w λe w'=>(∃b',e=rt (.tuple #[Bk.val b',I (cG s nm)])/\eI S' w' (dN s s.now (dI s nm took)) b')/\aG w w':=by
 have ha:=h.asks d;refine(vG b nm took w (h.ok d) ha.hf ha.hnf ha.hh ha.hnh ha.hgood).mono ?_;rintro e w' ⟨o,f⟩;refine⟨?_,f⟩;obtain⟨l,m⟩:=yP (b:=s) (b1:=b) h.c.lk nm took;rcases o with⟨a,_⟩|⟨_,b',rfl,g,i,j,n⟩;·rw[h.book,d]at a;cases a
 ·exact⟨b',by rw[l],n.at p ⟨g.trans h.c.now,i.trans h.c.fl,m.trans j⟩⟩
theorem SE {S S':Nat->Prop}(r:l8 w)(h:eI S w s b)(g:aO s=true)(nm:Ba)(took:Bool)(u:∀k,S' k->k<w.heap.size):
 aW 127 #[b.val,.string nm,.bool took] w λe w'=>(∃b',e=rt (.tuple #[Bk.val b',I (cG s nm)])/\eI S' w' (dN s s.now (dI s nm took)) b')/\aG w w':=by
 have ha:=h.asks g;refine(I2 b nm took w r ha.hf ha.hnf ha.hcap ha.hc2 ha.hs ha.hh ha.hnh ha.hgood).mono ?_;rintro e w' ⟨q,d⟩;refine⟨?_,d⟩;obtain⟨o,p⟩:=yP (b:=s) (b1:=b) h.c.lk nm took;rcases q with⟨a,_⟩|⟨a,b1,i,f,b'',c,v,⟨rfl,rfl⟩,rfl,t⟩;·rw[h.book,g]at a;cases a
 ·obtain⟨j,l,m,n⟩:=QP (took:=took) a v;exact⟨_,by rw[j,o],t.spS.at u ⟨l.trans h.c.now,m.trans h.c.fl,p.trans n⟩⟩
theorem QF {S S':Nat->Prop}(h:eI S w s b)(f:aO s=true)(nm:Ba)(a:List Bx)(ta:Oa)(i:Nat)(u:jG w ta a)(t:ln a<=1048576)(r:∀k,S' k->k<w.heap.size):
 aW 28 #[b.val,.string nm,.slice ta (ln a) i] w λe w'=>(∃b',e=rt (.tuple #[Bk.val b',I (dX s nm a)])/\eI S' w' (dN s s.now (gA s nm a)) b')/\aG w w':=by
 have ha:=h.asks f;refine(tG b nm a ta i w (h.ok f) (ha.with u t)).mono ?_;rintro e w' ⟨q,g⟩;refine⟨?_,g⟩;obtain⟨n,o⟩:=A6 (b:=s) (b1:=b) h.c.now h.c.fl h.c.lk nm a;rcases q with⟨d,_⟩|⟨_,b',rfl,j,l,m,p⟩;·rw[h.book,f]at d;cases d
 ·exact⟨b',by rw[n],p.at r ⟨j.trans h.c.now,l.trans h.c.fl,o.trans m⟩⟩
theorem OG {S S':Nat->Prop}(u:l8 w)(h:eI S w s b)(l:aO s=true)(nm:Ba)(d:List Bx)(ta:Oa)(m:Nat)(z:jG w ta d)(y:ln d<=1048576)(x:∀k,S' k->k<w.heap.size):
 aW 81 #[b.val,.string nm,.slice ta (ln d) m] w λe w'=>(∃b',e=rt (.tuple #[Bk.val b',I (dX s nm d)])/\eI S' w' (dN s s.now (gA s nm d)) b')/\aG w w':=by
 have ha:=h.asks l;refine(ED b nm d ta m w u ha.hf ha.hnf ha.hcap ha.hc2 ha.hs ha.hh ha.hnh ha.hgood z y).mono ?_;rintro e w' ⟨t,g⟩;refine⟨?_,g⟩;obtain⟨q,r⟩:=A6 (b:=s) (b1:=b) h.c.now h.c.fl h.c.lk nm d;rcases t with⟨a,_⟩|⟨a,b1,i,f,b'',c,j,⟨rfl,n,o,p⟩,rfl,v⟩;·rw[h.book,l]at a;cases a
 ·obtain⟨q1,A⟩:=U7 d a j;exact⟨_,by rw[q1,q],v.spS.at x ⟨(n.trans j.now).trans h.c.now,(o.trans j.fl).trans h.c.fl,(r.trans A).trans p⟩⟩
theorem ST {S S':Nat->Prop}(h:eI S w s b)(d:aO s=true)(n:Int)(r:∀k,S' k->k<w.heap.size):
 aW 30 #[b.val,I n] w λe w'=>(∃b',e=rt (.tuple #[Bk.val b',I (cX s n)])/\eI S' w' (dN s (fK s n) (eU s n)) b')/\aG w w':=by
 have ha:=h.asks d;refine(vO b n w (h.ok d) ha.hf ha.hnf ha.hh ha.hnh ha.hgood).mono ?_;rintro e w' ⟨q,f⟩;refine⟨?_,f⟩;obtain⟨l,m,o⟩:=xE (b:=s) (b':=b) n h.c.now h.c.lk;rcases q with⟨a,_⟩|⟨_,b',rfl,g,i,j,p⟩;·rw[h.book,d]at a;cases a
 ·exact⟨b',by rw[l],p.at r ⟨g.trans m,i.trans h.c.fl,o.trans j⟩⟩
theorem UK {S S':Nat->Prop}(q:l8 w)(h:eI S w s b)(f:aO s=true)(n:Int)(t:∀k,S' k->k<w.heap.size):
 aW 83 #[b.val,I n] w λe w'=>(∃b',e=rt (.tuple #[Bk.val b',I (cX s n)])/\eI S' w' (dN s (fK s n) (eU s n)) b')/\aG w w':=by
 have ha:=h.asks f;refine(IQ b n w q ha.hf ha.hnf ha.hcap ha.hc2 ha.hs ha.hh ha.hnh ha.hgood).mono ?_;rintro e w' ⟨⟨v,rfl,p⟩,d⟩;refine⟨?_,d⟩;obtain⟨l,m,o⟩:=xE (b:=s) (b':=b) n h.c.now h.c.lk;rcases p with⟨a,_⟩|⟨_,b',rfl,g,i,j,r⟩;·rw[h.book,f]at a;cases a
 ·exact⟨b',by rw[l],r.spS.at t ⟨g.trans m,i.trans h.c.fl,o.trans j⟩⟩
theorem sS (h:K8 s.now s.fl s.hl b)(t:List Bx)(a:Int):dE b t a=dE s t a:=by
 rw[dE,dE,nS h.now h.fl h.lk,h.fl]
theorem AD (h:K8 s.now s.fl s.hl b)(nm:Ba)(t:List Bx):lF b nm t=lF s nm t:=by
 funext d;unfold lF;rw[WJ h.lk (F:=λx=>tW nm x.n=true/\(EC t x.tl d∨EC t x.nl d)) (λa b g=>by rw[g.n,g.t,g.x])]
theorem TM (h:eI S w s b)(j:aO s=true)(nm:Ba)(d:List Bx)(ta:Oa)(i:Nat)(a:Int)(n:jG w ta d)(k:ln d<=1048576):
 aW 94 #[b.val,.string nm,.slice ta (ln d) i,I a] w λe w'=>(∃v,e=rt v/\lI w' w.heap.size v (oX s nm d a)/\eV s nm d a (oX s nm d a))/\aG w w':=by
 refine(G9 b nm d ta i a w ((h.asks j).with n k)).mono ?_;rintro e w' ⟨⟨v,l,rfl,m,g⟩,f⟩;unfold eV at g;rw[sS h.c,AD h.c]at g;have e:=DE (b:=s) g;exact⟨⟨v,rfl,by rw[e];exact m,by rw[e];exact g⟩,f⟩
theorem TC (h:eI S w s b)(j:aO s=true)(nm:Ba)(d:List Bx)(ta:Oa)(i:Nat)(a:Int)(n:jG w ta d)(k:ln d<=1048576):
 aW 85 #[b.val,.string nm,.slice ta (ln d) i,I a] w λe w'=>(∃v,e=rt v/\lI w' w.heap.size v (oX s nm d a)/\eV s nm d a (oX s nm d a))/\aG w w':=by
 refine(GT b nm d ta i a w ((h.asks j).with n k)).mono ?_;rintro e w' ⟨⟨v,l,rfl,m,g⟩,f⟩;unfold eV at g;rw[sS h.c,AD h.c]at g;have e:=DE (b:=s) g;exact⟨⟨v,rfl,by rw[e];exact m,by rw[e];exact g⟩,f⟩
theorem UZ (h:eI S w s b)(j:aO s=true)(nm:Ba)(d:List Bx)(ta:Oa)(i:Nat)(a:Int)(l:jG w ta d)(k:ln d<=1048576):
 aW 95 #[b.val,.string nm,.slice ta (ln d) i,I a] w λe w'=>(e=rt (eF (qO s nm d a))/\eG s nm d a (qO s nm d a))/\aG w w':=by
 refine(xD b nm d ta i a w ((h.asks j).with l k)).mono ?_;rintro e w' ⟨⟨o,rfl,g⟩,f⟩;unfold eG at g;rw[sS h.c,AD h.c]at g;have e:=DJ (b:=s) g;exact⟨⟨by rw[e],by rw[e];exact g⟩,f⟩
theorem VJ (h:eI S w s b)(j:aO s=true)(nm:Ba)(d:List Bx)(ta:Oa)(i:Nat)(a:Int)(l:jG w ta d)(k:ln d<=1048576):
 aW 87 #[b.val,.string nm,.slice ta (ln d) i,I a] w λe w'=>(e=rt (eF (qO s nm d a))/\eG s nm d a (qO s nm d a))/\aG w w':=by
 refine(yC b nm d ta i a w ((h.asks j).with l k)).mono ?_;rintro e w' ⟨⟨o,rfl,g⟩,f⟩;unfold eG at g;rw[sS h.c,AD h.c]at g;have e:=DJ (b:=s) g;exact⟨⟨by rw[e],by rw[e];exact g⟩,f⟩
end Go.Proofs.YtoolgmmljacfmaaGreatDoor
namespace Go.Proofs.YtoolgmmljacfmaaGreatDoor
open Go.BigFrame
variable {D n:Nat}{s:St}{b k:Bk}{ta:Oa}{w:Wd}{nm:Ba}{t:List Bx}{a d:Int}{l:List Sp}
structure o9 (D:Nat)(w:World)(s:St)(b:Bk)(ta:Option Addr)(tc:Nat):Prop where
 o:w.heap[D]?=some (.cells #[.int .i64 b.now,.slice b.fa b.fl.length b.fc,.slice b.ha b.hl.length b.hc,.slice ta s.t.length tc] 70)
 b:eI (λk=>k=D) w s.b b
 t:∀w',aU (λk=>k=D) w w'->jG w' ta s.t
theorem o9.zL {w w':Wd}(h:o9 D w s b ta n)(a:aG w w'):o9 D w' s b ta n:=
 ⟨bJ h.o a,h.b.zL a,λe d=>h.t e ((aU.below a).trans d)⟩
theorem o9.c (h:o9 D w s b ta n):w.cell? (Y D 0)=some (I b.now)/\w.cell? (Y D 1)=some (.slice b.fa (ln b.fl) b.fc)/\w.cell? (Y D 2)=some (.slice b.ha (ln b.hl) b.hc)/\w.cell? (Y D 3)=some (.slice ta (ln s.t) n):=⟨aB h.o rfl,aB h.o rfl,aB h.o rfl,aB h.o rfl⟩
theorem o9.tb (h:o9 D w s b ta n):jG w ta s.t:=h.t w (aU.refl _ _)
theorem TR (o:Ba)(p:Sp)(c:p.lo<=2000000)(d:p.hi<=2000000):(nB o p).size<=o.size+4000004:=by
 have:=bD c;have:=bD d;have a:WC.size=1:=rfl;have b:sSp.size=1:=rfl;simp only[nB,bsz,a,b];omega
theorem xY (l:List Sp)(h:∀p∈l,p.lo<=2000000/\p.hi<=2000000):∀o:Ba,(l.foldl nB o).size<=o.size+ln l*4000004:=by
 induction l with
 |nil=>intro o;simp
 |cons p r ih=>
  intro o;obtain⟨a,b⟩:=h p sm;have:=ih (λq c=>h q (by simp[c])) (nB o p);have:=TR o p a b;simp only[List.foldl_cons,llc];omega
theorem zO (h:eV k nm t a l):∀p∈l,0<=p.lo/\p.lo<=2000000/\0<=p.hi/\p.hi<=2000000:=λp d=>by
 cases e:dE k t a with
 |false=>rw[h.2 e]at d;cases d
 |true=>
  have hm:a<=300:=by
   simp only[dE,bat,dte]at e;exact e.1.2
  obtain⟨f,_⟩:=h.1 e;have h1:=f.b p d;have h2:=f.c.ne p d;omega
theorem IA (h:eG b nm t a (some d)):0<=d/\d<=2000000:=by
 cases e:dE b t a with
 |false=>have:=h.2 e;cases this
 |true=>
  have hm:a<=300:=by
   simp only[dE,bat,dte]at e;exact e.1.2
  have:=h.1 e;exact⟨this.1,by have:=this.2.1;omega⟩
def DB2 (D:Nat)(b:Bk)(nm:ByteArray)(tv:Value)(most:Int)(j:Nat)(v:Value)(_w:World):Prop:=
 match j with
 |0|1|5|6=>v=(E D 0)
 |2=>v=(E D 0)
 |3=>v=b.val
 |4=>v=.string nm
 |7=>v=(E D 3)
 |8=>v=tv
 |9=>v=I most
 |_=>True
def DB7 (D:Nat)(b:Bk)(nm:ByteArray)(tv:Value)(most:Int)(o:Option Int)(E:Prop)(j:Nat)(v:Value)(_w:World):Prop:=
 match j with
 |0|1|5|6=>v=.pointer (some (Y D 0))
 |2=>v=.pointer (some (Y D 0))
 |3=>v=b.val
 |4=>v=.string nm
 |7=>v=.pointer (some (Y D 3))
 |8=>v=tv
 |9=>v=I most
 |10=>v=.tuple #[I (o.getD 0),.bool o.isSome]/\E
 |11=>v=.tuple #[I (o.getD 0),.bool o.isSome]
 |12|14=>v=I (o.getD 0)
 |13=>v=.bool o.isSome
 |_=>True
def DB6 (g off n cap k:Nat)(p:Sp)(s0 s1 s2 s3 s4 s5 s6:ByteArray)(j:Nat)(v:Value)(_w:World):Prop:=
 match j with
 |0=>v=.string s0
 |1|9=>v=.slice (some (Y g off)) n cap
 |2|10=>v=I (k:Int)
 |3|4|11=>v=(E g (off+k*2))
 |5=>v=I p.lo
 |6=>v=.string s1
 |7=>v=.string s2
 |8=>v=.string s3
 |12=>v=(E g (off+k*2+1))
 |13=>v=I p.hi
 |14=>v=.string s4
 |15=>v=.string s5
 |16=>v=.string s6
 |_=>True
theorem JZ (o:Option Int):eF o=.tuple #[I (o.getD 0),.bool o.isSome]:=by cases o<;>rfl
theorem SP (D:Nat)(w:Wd)(s:St)(b:Bk)(ta:Oa)(U k:Nat)(nm:Ba)(a:Int)(J:o9 D w s b ta U)(G:jF k s)(hk:k<=1048576):
 aW 53 #[E D 0,.string nm,I a] w λe w'=>e=rt (.string (nO s.b nm s.t a))/\aG w w':=by
 go_enter Tryz.func53,Tryz.ntmps53
 go_upto_region 2 with fail
 refine pG 10 [some 12,some 13,some 14,some 15,some 16,some 17,some 18,some 19,some 20,some 21] (DB2 D b nm (.slice ta (ln s.t) U) a) (λ_ _ _ _ h _=>h) ?step ?fin
 case step=>
  intro ii o i w' A B m j;obtain⟨zm,zn,zs,zt⟩:=(J.zL m).c
  match ii,A with
  |1,_|2,_|3,_|6,_|7,_|8,_=>
   cases B
   simp[Region.binds,DB2]at j
   simp only[aD,Act.put,j];gi_wp2;exact⟨_,by simp[aH,j],rfl,br _ _⟩
  |0,_|4,_|5,_|9,_=>
   cases B
   gi_wp2;exact⟨_,uhx,rfl,br _ _⟩
  |q+10,h=>omega
 case fin=>
  intro i w8 m f;have N:i 3=b.val:=f 3 dz;have P:i 4=.string nm:=f 4 dz;have e8:i 8=.slice ta (ln s.t) U:=f 8 dz;have e9:i 9=I a:=f 9 dz;have F:Hid _:=J.zL m;have n:=aI m;clear f m J;simp only[lds,ldz,aD,Act.put];rw[N,P,e8,e9];clear N P e8 e9;generalize i=i;gi_wp2_with fail
  refine tqx ?_;refine(cw.2 (TM F.oQ.b G.b nm s.t ta U a F.oQ.tb (by have:=G.t;omega))).mono ?_;rintro e w9 ⟨⟨v,rfl,hO,hI⟩,r⟩;obtain⟨L,hL⟩:=bQ (oX s.b nm s.t a);rw[←hL]at hO hI;have HL:=aI hL;have S:=zO hI;have hl3:=hI.len;clear hL hI;obtain⟨ao,cp,rfl⟩:=bW.slice hO;have zb:Hid (Xs 2 Sp.cells w9 ao L):=bW.xs (c:=Sp.cells) (sz:=2) (t:=134) (λ_=>rfl) hO;have C:=aI (aE n.oQ r);have za:Hid _:=F.oQ.zL r;clear hO r F n;gi_wp2_with fail
  go_wp2
  obtain⟨W9,hW9⟩:=bQ w9
  go_loopw [7,9] (λov iv wr=>∃k:Nat,k<=ln L/\ov=.string ((L.take k).foldl nB ⟨#[]⟩)/\iv=I k/\aG w9 wr) (λ_ iv _=>ln L-(intOf iv).toNat)
  case atStart=>exact⟨0,nz _,rfl,rfl,br _ _⟩
  case round=>
   obtain⟨k,hk,rfl,rfl,V⟩:=hrel;have H:=xY (L.take k) (λp f=>⟨(S p (lmt f)).2.1,(S p (lmt f)).2.2.2⟩) ⟨#[]⟩;have K:ln (L.take k)<=301:=by rw[llt];omega
   have zl:(ByteArray.mk #[]).size=0:=rfl
   by_cases u:k<ln L
   ·have ze:(k:Int)<(ln L:Int):=om
    rcases zb.oQ.zL V with h|⟨g,T,zp,R⟩
    ·rw[h]at u;simp at u
    subst zp;have k0:wr.cell? (Y g (T+k*2))=some (I L[k].lo):=R k u 0 _ rfl;have k1:wr.cell? (Y g (T+k*2+1))=some (I L[k].hi):=R k u 1 _ rfl;obtain⟨zg,zh,zi,zj⟩:=S _ (lgm u);have l:(L.take (k+1)).foldl nB ⟨#[]⟩=nB ((L.take k).foldl nB ⟨#[]⟩) L[k]:=by rw[tsa u,List.foldl_append];rfl
    obtain⟨s0,zk⟩:∃s,s=(L.take k).foldl nB ⟨#[]⟩:=⟨_,rfl⟩;obtain⟨p,f⟩:=bQ (L[k]);rw[←zk]at l H ⊢;rw[←f]at l k0 k1 zg zh zi zj;clear zk f R;obtain⟨W,e1⟩:∃s,s=dH p.lo:=⟨_,rfl⟩;obtain⟨s2,e2⟩:∃s,s=s0++W:=⟨_,rfl⟩;obtain⟨s3,N⟩:∃s,s=s2++⟨#[45]⟩:=⟨_,rfl⟩;obtain⟨X,P⟩:∃s,s=dH p.hi:=⟨_,rfl⟩;obtain⟨s5,e5⟩:∃s,s=s3++X:=⟨_,rfl⟩;obtain⟨s6,e6⟩:∃s,s=s5++⟨#[32]⟩:=⟨_,rfl⟩;have z1:W.size<=2000001:=by rw[e1];exact bD zh
    have z2:s2.size=s0.size+W.size:=by rw[e2,bsz]
    have z3:s3.size=s2.size+1:=by rw[N,bsz];rfl
    have z4:X.size<=2000001:=by rw[P];exact bD zj
    have z5:s5.size=s3.size+X.size:=by rw[e5,bsz]
    have g2:¬9223372036854775807<s0.size+W.size:=om
    have g3:¬9223372036854775807<s2.size+1:=om
    have g5:¬9223372036854775807<s3.size+X.size:=om
    have g6:¬9223372036854775807<s5.size+1:=om
    have HT:Hid ((L.take (k+1)).foldl nB ⟨#[]⟩=s6):=by rw[Hid,l,nB,←e1,←P];show s0++W++⟨#[45]⟩++X++⟨#[32]⟩=s6;rw[←e2,←N,←e5,←e6]
    have E1:Hid _:=e1;have E4:Hid _:=P;have e2':=e2.symm;have e3':=N.symm;have e5':=e5.symm;have e6':=e6.symm;clear z1 z2 z3 z4 z5 e1 e2 N P e5 e6 l H K zl
    go_upto_region 6 with fail
    refine pG 17 [some 29,some 30,some 31,some 32,some 33,some 34,some 35,some 36,some 37,some 38,some 39,some 40,some 41,some 42,some 43,some 44,some 45] (DB6 g T (ln L) cp k p s0 W s2 s3 X s5 s6) (λ_ _ _ _ h _=>h) ?step ?fin
    case step=>
     intro ii o i w' A B m j;have zm:=ctq m k0;have zn:=ctq m k1
     match ii,A with
     |3,_|4,_|5,_|7,_|8,_|11,_|12,_|13,_|15,_|16,_=>
      cases B
      simp[Region.binds,DB6]at j
      simp only[aD,Act.put,j];gi_wp2;exact⟨_,by simp[aH,j],rfl,br _ _⟩
     |0,_|1,_|2,_|9,_|10,_=>
      cases B
      gi_wp2;exact⟨_,uhx,rfl,br _ _⟩
     |6,_=>
      cases B
      simp[Region.binds,DB6]at j
      simp only[aD,Act.put,j];gi_wp2_with fail
      refine tqx ?_;refine(cw.2 (mT p.lo w' zg om)).mono ?_;rintro e w5 ⟨rfl,z⟩;rw[←E1.out];gi_wp2;exact⟨_,by simp[aH,j],rfl,z⟩
     |14,_=>
      cases B
      simp[Region.binds,DB6]at j
      simp only[aD,Act.put,j];gi_wp2_with fail
      refine tqx ?_;refine(cw.2 (mT p.hi w' zi om)).mono ?_;rintro e w5 ⟨rfl,z⟩;rw[←E4.out];gi_wp2;exact⟨_,by simp[aH,j],rfl,z⟩
     |q+17,h=>omega
    case fin=>
     intro i w8 m f;have zc:i 16=.string s6:=f 16 dz;have n:=aI m;clear f m;simp only[lds,ldz,aD,Act.put];rw[zc];clear zc;generalize i=i;gi_wp2_with fail
     go_wp2
     go_roundw
     case rel=>exact⟨k+1,om,by rw[HT.oQ],gn,aE V n.oQ⟩
     case measure=>simp[intOf];omega
   ·have ze:¬(k:Int)<(ln L:Int):=om
    have zd:L.take k=L:=ltl om;rw[zd]at H K ⊢;clear zd;obtain⟨O,Q⟩:=bQ (L.foldl nB ⟨#[]⟩);rw[←Q]at H ⊢;have Z:=aI Q;clear Q;have J:o9 D wr s b ta U:=za.oQ.zL V;obtain⟨o,zf⟩:=bQ (qO s.b nm s.t a);have HO:=aI zf;clear zf zb
    replace V:aG w wr:=aE C.oQ V
    clear za C
    go_upto_region 7 with fail
    refine pG 15 [some 47,some 48,some 49,some 50,some 51,some 52,some 53,some 54,some 55,some 56,some 57,some 46,some 58,some 59,some 10] (DB7 D b nm (.slice ta (ln s.t) U) a o (eG s.b nm s.t a o)) (λ_ _ _ _ h _=>h) ?step ?fin
    case step=>
     intro ii o i w' A B m j;obtain⟨zm,zn,zs,zt⟩:=(J.zL m).c
     match ii,A with
     |1,_|2,_|3,_|6,_|7,_|8,_|11,_|12,_|13,_|14,_=>
      cases B
      simp[Region.binds,DB7]at j
      simp only[aD,Act.put,j];gi_wp2;exact⟨_,by simp[aH,j],rfl,br _ _⟩
     |0,_|4,_|5,_|9,_=>
      cases B
      gi_wp2;exact⟨_,uhx,rfl,br _ _⟩
     |10,_=>
      cases B
      simp[Region.binds,DB7]at j
      simp only[aD,Act.put,j];gi_wp2_with fail
      refine tqx ?_;refine(cw.2 (UZ (J.zL m).b G.b nm s.t ta U a (J.zL m).tb (by have:=G.t;omega))).mono ?_;rintro e w5 ⟨⟨rfl,hE⟩,z⟩;rw[←HO.oQ]at hE;rw[←HO.oQ,JZ];have HE:=aI hE;clear hE;gi_wp2;exact⟨_,by simp[aH,j],⟨rfl,HE.oQ⟩,z⟩
     |q+15,h=>omega
    case fin=>
     intro i w8 m f;have HE:Hid (eG s.b nm s.t a o):=(f 10 dz).2;have n:=aI (aE V m);clear m J
     cases o with
     |none=>
      have x:i 13=.bool false:=f 13 dz;have y:i 14=I 0:=f 14 dz;clear f;simp only[lds,ldz,aD,Act.put];rw[x,y];clear x y;generalize i=i;have M:Hid (nO s.b nm s.t a=O++⟨#[110,101,118,101,114]⟩):=by rw[Hid,nO,←HO.oQ,←HL.oQ,←Z.oQ];rfl
      have g1:¬9223372036854775807<O.size+5:=om
      gi_wp2_with fail
      go_wp2
      go_ret;exact⟨by rw[M.oQ];rfl,n.oQ⟩
     |some d=>
      have x:i 13=.bool true:=f 13 dz;have y:i 14=I d:=f 14 dz;clear f;simp only[lds,ldz,aD,Act.put];rw[x,y];clear x y;generalize i=i;obtain⟨zq,zr⟩:=IA HE.oQ;have M:Hid (nO s.b nm s.t a=O++⟨#[102,114,101,101,32]⟩++dH d):=by rw[Hid,nO,←HO.oQ,←HL.oQ,←Z.oQ];rfl
      have g1:¬9223372036854775807<O.size+5:=om
      have hds:=bD zr;have g2:¬9223372036854775807<O.size+5+(dH d).size:=om
      gi_wp2_with fail
      go_wp2_with fail
      refine(mT d w8 zq om).mono ?_;rintro e w9 ⟨rfl,r⟩;have C:=aI (aE n.oQ r);clear r;go_wp2
      go_ret;exact⟨by rw[M.oQ];rfl,C.oQ⟩
variable {l:List Bx}{h:Hx}{s:Bk}
theorem lS (hn:ln l<=40)(h:∀b∈l,b.i<=2000000/\b.o<=2000000):(iS l).size<=6000005:=by
 cases l with
 |nil=>show(⟨#[45]⟩:Ba).size<=_;decide
 |cons b r=>
  have h1:=bD (n:=(ln (b::r):Int)) om;have h2:=bD (h b sm).1;have h3:=bD (h _ (List.getLast_mem (l:=b::r) sm)).2;have a:(⟨#[64]⟩:Ba).size=1:=rfl;have c:(⟨#[45]⟩:Ba).size=1:=rfl;simp only[iS,bsz,a,c];omega
theorem sZ (h:∀y∈l,aK y=true):∀b∈l,0<=b.i/\b.i<=2000000/\0<=b.o/\b.o<=2000000:=λb a=>by
 have:=h b a;simp only[aK,dte]at this;omega
theorem pB (h:∀y∈l,aK y=true):∀b∈l,b.i<=2000000/\b.o<=2000000:=λb a=>⟨(sZ h b a).2.1,(sZ h b a).2.2.2⟩
theorem OT (o:Ba)(h1:(iS h.tl).size<=6000005)(h2:(iS h.nl).size<=6000005)(h3:h.n.size<=8):(mY o h).size<=o.size+12000021:=by
 have a:sSp.size=1:=rfl;have b:(⟨#[58]⟩:Ba).size=1:=rfl;have c:(⟨#[47]⟩:Ba).size=1:=rfl;simp only[mY,bsz,a,b,c];omega
theorem DG (l:List Hx)(h:∀x∈l,(iS x.tl).size<=6000005/\(iS x.nl).size<=6000005/\x.n.size<=8):∀o:Ba,(l.foldl mY o).size<=o.size+ln l*12000021:=by
 induction l with
 |nil=>intro o;simp
 |cons p r ih=>
  intro o;obtain⟨a,b,c⟩:=h p sm;have:=ih (λq d=>h q (by simp[d])) (mY o p);have:=OT o a b c;simp only[List.foldl_cons,llc];omega
theorem CR (h:K8 s.now s.fl s.hl b):rC b=rC s:=by
 have e:∀(l:List Hx) (o:Ba),l.foldl mY o=(l.map (λx=>(x.n,x.tl,x.nl))).foldl (λo k=>o++sSp++k.1++⟨#[58]⟩++iS k.2.1++⟨#[47]⟩++iS k.2.2) o:=λl o=>by rw[List.foldl_map];rfl
 unfold rC;rw[e,e,h.now,h.lk.map (λx=>(x.n,x.tl,x.nl)) (λa b g=>by simp[g.n,g.t,g.x])]
def DH6 (H:Nat)(x:Hx)(s0 s1 s2 s3 s4 s5 s6 s7 s8:ByteArray)(j:Nat)(v:Value)(_w:World):Prop:=
 match j with
 |0=>v=.string s0
 |1=>v=.string s1
 |2=>v=(E H 0)
 |3=>v=.string x.n
 |4=>v=.string s2
 |5=>v=.string s3
 |6=>v=(E H 1)
 |7=>v=.slice x.ta x.tl.length x.tc
 |8=>v=.string s4
 |9=>v=.string s5
 |10=>v=.string s6
 |11=>v=(E H 2)
 |12=>v=.slice x.na x.nl.length x.nc
 |13=>v=.string s7
 |14=>v=.string s8
 |_=>True
theorem VG (D:Nat)(w:Wd)(s:St)(b:Bk)(ta:Oa)(tc k:Nat)(P:o9 D w s b ta tc)(zs:jF k s):
 aW 51 #[E D 0] w λe w'=>e=rt (.string (rC s.b))/\aG w w':=by
 have G:aO b=true:=P.b.book.trans zs.b;have K:=vN G;have h16:=kD G
 have zb:0<=b.now/\b.now<=10000:=by
  have:=(dQ.1 G).1
  rwa[oL,dte]at this
 have m:∀x∈b.hl,(iS x.tl).size<=6000005/\(iS x.nl).size<=6000005/\x.n.size<=8:=λx hx=>by
  obtain⟨_,h1,h2,h3,h4,h5⟩:=K x hx;exact⟨lS h1 (pB h4),lS h2 (pB h5),h3⟩
 have zl:=aI (CR P.b.c);obtain⟨c0,c1,c2,c3⟩:=P.c;clear G
 go_enter Tryz.func51,Tryz.ntmps51
 go_wp2_with fail
 refine(mT b.now w zb.1 om).mono ?_;rintro e w1 ⟨rfl,f⟩;have hdn:=bD (n:=b.now) om
 replace P:=P.zL f
 have zi:=aI f;clear f c0 c1 c2 c3;go_wp2
 go_loopw [3,4] (λov iv wr=>∃k:Nat,k<=ln b.hl/\ov=.string ((b.hl.take k).foldl mY (dH b.now))/\iv=I k/\aG w wr/\aG w1 wr) (λ_ iv _=>ln b.hl-(intOf iv).toNat)
 case atStart=>exact⟨0,nz _,rfl,rfl,zi.oQ,br _ _⟩
 case round=>
  obtain⟨k,hk,rfl,rfl,hN,U⟩:=hrel;have O:=DG (b.hl.take k) (λp hp=>m p (lmt hp)) (dH b.now);have L:ln (b.hl.take k)<=16:=by rw[llt];omega
  have M:=P.zL U;obtain⟨c0,c1,c2,c3⟩:=M.c
  by_cases d:k<ln b.hl
  ·have za:(k:Int)<(ln b.hl:Int):=om
   have l:=M.b.inn
   rcases l.h with h|⟨g,off,zm,X⟩
   ·rw[h]at d;simp at d
   rw[zm]at c2;obtain⟨q0,q1,q2⟩:=gN (X k d);obtain⟨_,zp,zq,zr,f,W⟩:=K _ (lgm d);obtain⟨zd,ze,_⟩:=m _ (lgm d);have j:=l.i _ (lgm d);have a:(b.hl.take (k+1)).foldl mY (dH b.now)=mY ((b.hl.take k).foldl mY (dH b.now)) b.hl[k]:=by rw[tsa d,List.foldl_append];rfl
   obtain⟨s0,zc⟩:∃s,s=(b.hl.take k).foldl mY (dH b.now):=⟨_,rfl⟩;obtain⟨x,hx⟩:=bQ (b.hl[k]);rw[←zc]at a O ⊢;rw[←hx]at a q0 q1 q2 zp zq zr f W zd ze j;clear zc hx X l M;obtain⟨s1,r⟩:∃s,s=s0++(⟨#[32]⟩:Ba):=⟨_,rfl⟩;obtain⟨s2,t⟩:∃s,s=s1++x.n:=⟨_,rfl⟩;obtain⟨s3,u⟩:∃s,s=s2++(⟨#[58]⟩:Ba):=⟨_,rfl⟩;obtain⟨Q,v⟩:∃s,s=iS x.tl:=⟨_,rfl⟩;obtain⟨s5,y⟩:∃s,s=s3++Q:=⟨_,rfl⟩;obtain⟨s6,z⟩:∃s,s=s5++(⟨#[47]⟩:Ba):=⟨_,rfl⟩;obtain⟨R,A⟩:∃s,s=iS x.nl:=⟨_,rfl⟩;obtain⟨s8,B⟩:∃s,s=s6++R:=⟨_,rfl⟩;have zt:s1.size=s0.size+1:=by rw[r,bsz];rfl
   have zu:s2.size=s1.size+x.n.size:=by rw[t,bsz]
   have zv:s3.size=s2.size+1:=by rw[u,bsz];rfl
   have zw:Q.size<=6000005:=by rw[v];exact zd
   have zx:s5.size=s3.size+Q.size:=by rw[y,bsz]
   have zy:s6.size=s5.size+1:=by rw[z,bsz];rfl
   have zz:R.size<=6000005:=by rw[A];exact ze
   have yb:s8.size=s6.size+R.size:=by rw[B,bsz]
   have gs1:¬9223372036854775807<s0.size+1:=om
   have gs2:¬9223372036854775807<s1.size+x.n.size:=om
   have gs3:¬9223372036854775807<s2.size+1:=om
   have gs5:¬9223372036854775807<s3.size+Q.size:=om
   have gs6:¬9223372036854775807<s5.size+1:=om
   have gs8:¬9223372036854775807<s6.size+R.size:=om
   have HT:Hid ((b.hl.take (k+1)).foldl mY (dH b.now)=s8):=by rw[Hid,a,mY,←v,←A];show s0++⟨#[32]⟩++x.n++⟨#[58]⟩++Q++⟨#[47]⟩++R=s8;rw[←r,←t,←u,←y,←z,←B]
   have fs1:=r.symm;have fs2:=t.symm;have fs3:=u.symm;have zg:=aI v;have fs5:=y.symm;have fs6:=z.symm;have zh:=aI A;have fs8:=B.symm;clear r zt t zu u zv v zw y zx z zy A zz B yb a O L;have k0:(wr.alloc (ho x)).cell? (ya wr 0)=some (.string x.n):=aB (wnq wr _) rfl;have k1:(wr.alloc (ho x)).cell? (ya wr 1)=some (ts x):=aB (wnq wr _) rfl;have k2:(wr.alloc (ho x)).cell? (ya wr 2)=some (ns x):=aB (wnq wr _) rfl;have F:aG wr (wr.alloc (ho x)):=aC (br _ _) _;have S:=aI (aE hN F);have J:=aI (aE U F)
   replace j:=Hx.In.zL j F
   clear F
   go_upto_region 6 with fail
   obtain⟨W1,V⟩:=cI (wr.alloc (ho x));rw[V]at k0 k1 k2 S J j ⊢;clear V q0 q1 q2 c0 c1 c2 c3;refine pG 15 [some 30,some 31,some 32,some 33,some 34,some 35,some 36,some 37,some 38,some 39,some 40,some 41,some 42,some 43,some 44] (DH6 wr.heap.size x s0 s1 s2 s3 Q s5 s6 R s8) (λ_ _ _ _ h _=>h) ?step ?fin
   case step=>
    intro ii o vs w' zn zf C H;have z0z:=ctq C k0;have z1z:=ctq C k1;have z2z:=ctq C k2
    match ii,zn with
    |1,_|3,_|4,_|5,_|7,_|9,_|10,_|12,_|14,_=>
     cases zf
     simp[Region.binds,DH6]at H
     simp only[aD,Act.put,H];gi_wp2;exact⟨_,by simp[aH,H],rfl,br _ _⟩
    |0,_|2,_|6,_|11,_=>
     cases zf
     gi_wp2;exact⟨_,uhx,rfl,br _ _⟩
    |8,_=>
     cases zf
     simp[Region.binds,DH6]at H
     simp only[aD,Act.put,H];gi_wp2_with fail
     refine tqx ?_;refine(cw.2 (AM x.tl x.ta x.tc w' (j.1.zL C) om (sZ f))).mono ?_;rintro e w5 ⟨rfl,N⟩;rw[←zg.out];gi_wp2;exact⟨_,by simp[aH,H],rfl,N⟩
    |13,_=>
     cases zf
     simp[Region.binds,DH6]at H
     simp only[aD,Act.put,H];gi_wp2_with fail
     refine tqx ?_;refine(cw.2 (AM x.nl x.na x.nc w' (j.2.zL C) om (sZ W))).mono ?_;rintro e w5 ⟨rfl,N⟩;rw[←zh.out];gi_wp2;exact⟨_,by simp[aH,H],rfl,N⟩
    |q+15,h=>omega
   case fin=>
    intro vs w8 C hp;have T:vs 14=.string s8:=hp 14 dz;have zj:=aI (aE S.oQ C);have zk:=aI (aE J.oQ C);clear hp C;simp only[lds,ldz,aD,Act.put];rw[T];clear T;generalize vs=vs;gi_wp2_with fail
    go_wp2
    go_roundw
    case rel=>exact⟨k+1,om,by rw[HT.oQ],gn,zj.oQ,zk.oQ⟩
    case measure=>simp[intOf];omega
  ·have za:¬(k:Int)<(ln b.hl:Int):=om
   have Z:b.hl.take k=b.hl:=ltl om;rw[Z];clear Z O L;go_wp2
   go_ret;exact⟨by rw[←zl.oQ];rfl,hN⟩
