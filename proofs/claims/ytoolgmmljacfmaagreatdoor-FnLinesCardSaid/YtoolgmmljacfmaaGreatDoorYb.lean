import Derived.Test.YtoolgmmljacfmaaGreatDoorYa
import Derived.Test.YtoolgmmljacfmaaGreatDoorXh
set_option maxRecDepth 100000
set_option maxHeartbeats 16000000
open List renaming length → ln
open Go.Proofs.Tryz Go.RowKit
namespace Go.Proofs.YtoolgmmljacfmaaGreatDoor
variable {nm:Ba}{t:List Bx}{a:Int}{l:List Sp}{k w:Nat}
structure St where
 b:Bk
 t:List Bx
abbrev dR:ByteArray:=⟨#[98,97,100]⟩
abbrev VW:ByteArray:=⟨#[111,107]⟩
abbrev sNo:ByteArray:=⟨#[110,111]⟩
abbrev sSp:ByteArray:=⟨#[32]⟩
abbrev sLf:ByteArray:=⟨#[10]⟩
abbrev WC:ByteArray:=⟨#[45]⟩
def qC (l:List Fx)(nm:ByteArray):Nat:=(l.takeWhile (λg=>gE g.n nm)).length
def gY (l:List Fx)(f:Fx):List Fx:=l.take (qC l f.n)++f::l.drop (qC l f.n)
def gR (b:Bk)(f:Fx):Bk:=⟨b.now,none,gY b.fl f,0,none,b.hl,0⟩
def gH (s:St):List ByteArray->St×ByteArray
 |[nm,x,y]=>if j7 [x,y]then(if aO (gR s.b ⟨nm,aV x,aV y⟩)then(⟨gR s.b ⟨nm,aV x,aV y⟩,s.t⟩,VW)else(s,sNo))else(s,dR)
 |_=>(s,dR)
def wL (nm q sl f b l:ByteArray)(lv:List ByteArray)(cs:List (List Cx)):Wx:=⟨nm,aV q,aV sl,aV f,aV b,aV l,none,cs.map (λc=>⟨none,c,0⟩),0,none,aS lv,0⟩
def AA:List Co->ByteArray
 |[]=>⟨#[]⟩
 |c::_=>⟨#[108,97,116,101,32]⟩++dH c.d++⟨#[32,119,97,121,32]⟩++dH c.i++⟨#[32,108,101,118,101,108,32]⟩++dH c.k
def oI (s:St)(x:Wx):St×ByteArray:=(⟨dN s.b s.b.now (eY s.b x),s.t⟩,if dF s.b x=0 then AA (tH s.b x)else jC (dF s.b x))
def k8 (s:St):List ByteArray->St×ByteArray
 |nm::q::sl::f::b::l::lv::y::ys=>
  if j7 [q,sl,f,b,l]&&j7 (bG 44 lv)then(match fV (y::ys)with|some cs=>oI s (wL nm q sl f b l (bG 44 lv) cs)|none=>(s,dR))else(s,dR)
 |_=>(s,dR)
def vB (s:St):List ByteArray->St×ByteArray
 |[a,b,c,d,e,f]=>if j7 [a,b,c,d,e,f]then(⟨s.b,s.t++[⟨aV a,aV b,aV c,aV d,aV e,aV f⟩]⟩,VW)else(s,dR)
 |_=>(s,dR)
def rW (s:St):List ByteArray->St×ByteArray
 |[nm]=>(⟨dN s.b s.b.now (gA s.b nm s.t),[]⟩,jC (dX s.b nm s.t))
 |_=>(s,dR)
def n9 (took:Bool)(s:St):List ByteArray->St×ByteArray
 |[nm]=>(⟨dN s.b s.b.now (dI s.b nm took),s.t⟩,jC (cG s.b nm))
 |_=>(s,dR)
def mZ (s:St):List ByteArray->St×ByteArray
 |[n]=>if 0<=aV n then(⟨dN s.b (fK s.b (aV n)) (eU s.b (aV n)),s.t⟩,jC (cX s.b (aV n)))else(s,dR)
 |_=>(s,dR)
def mY (o:ByteArray)(h:Hx):ByteArray:=o++sSp++h.n++⟨#[58]⟩++iS h.tl++⟨#[47]⟩++iS h.nl
def rC (b:Bk):ByteArray:=b.hl.foldl mY (dH b.now)
def yK (s:St):List ByteArray->St×ByteArray
 |[]=>(s,rC s.b)
 |_=>(s,dR)
open Classical in
noncomputable def oX (b:Bk)(nm:ByteArray)(t:List Bx)(most:Int):List Sp:=if∃l,eV b nm t most l then Classical.epsilon λl=>eV b nm t most l else[]
open Classical in
noncomputable def qO (b:Bk)(nm:ByteArray)(t:List Bx)(most:Int):Option Int:=if∃o,eG b nm t most o then Classical.epsilon λo=>eG b nm t most o else none
theorem DE {b:Bk}(h:eV b nm t a l):oX b nm t a=l:=by
 unfold oX;rw[if_pos ⟨l,h⟩];exact(Classical.epsilon_spec (p:=λl=>eV b nm t a l) ⟨l,h⟩).uniq h
theorem DJ {b:Bk}{o:Option Int}(h:eG b nm t a o):qO b nm t a=o:=by
 unfold qO;rw[if_pos ⟨o,h⟩];exact(Classical.epsilon_spec (p:=λo=>eG b nm t a o) ⟨o,h⟩).uniq h
theorem V2 (b:Bk)(nm:Ba)(t:List Bx)(a:Int):eV b nm t a (oX b nm t a)∨oX b nm t a=[]:=by
 by_cases h:∃l,eV b nm t a l
 ·obtain⟨l,h⟩:=h;rw[DE h];exact .inl h
 ·exact .inr (if_neg h)
theorem Y7 (b:Bk)(nm:Ba)(t:List Bx)(a:Int):eG b nm t a (qO b nm t a)∨qO b nm t a=none:=by
 by_cases h:∃l,eG b nm t a l
 ·obtain⟨l,h⟩:=h;rw[DJ h];exact .inl h
 ·exact .inr (if_neg h)
def nB (o:ByteArray)(p:Sp):ByteArray:=o++dH p.lo++WC++dH p.hi++sSp
def RH (s:ByteArray):Option Int->ByteArray
 |none=>s++⟨#[110,101,118,101,114]⟩
 |some d=>s++⟨#[102,114,101,101,32]⟩++dH d
noncomputable def nO (b:Bk)(nm:ByteArray)(t:List Bx)(most:Int):ByteArray:=RH ((oX b nm t most).foldl nB ⟨#[]⟩) (qO b nm t most)
noncomputable def oC (s:St):List ByteArray->St×ByteArray
 |[nm,m]=>if 0<=aV m then(s,nO s.b nm s.t (aV m))else(s,dR)
 |_=>(s,dR)
abbrev pV:List UInt8:=[102,105,101,108,100]
abbrev vU:List UInt8:=[119,105,115,104]
abbrev JD:List UInt8:=[98,111,120]
abbrev pJ:List UInt8:=[97,109,101,110,100]
abbrev uZ:List UInt8:=[116,111,111,107]
abbrev GH:List UInt8:=[114,101,102,117,115,101,100]
abbrev wB:List UInt8:=[116,105,99,107]
abbrev vI:List UInt8:=[104,101,108,100]
abbrev wT:List UInt8:=[98,97,114,115]
noncomputable def aX (s:St):List ByteArray->St×ByteArray
 |[]=>(s,dR)
 |n::a=>if n.toList=pV then gH s a else if n.toList=vU then k8 s a else if n.toList=JD then vB s a else if n.toList=pJ then rW s a else
  if n.toList=uZ then n9 true s a else if n.toList=GH then n9 false s a else if n.toList=wB then mZ s a else if n.toList=vI then yK s a else if n.toList=wT then oC s a else(s,dR)
structure jF (k:Nat)(s:St):Prop where
 b:aO s.b=true
 t:s.t.length<=k
theorem jF.mono {s:St}(h:jF k s)(hk:k<=w):jF w s:=⟨h.b,by have:=h.t;omega⟩
theorem aAI {s:St}(h:jF k s)(d:List Ba):jF (k+1) (aX s d).1:=by
 have a:jF (k+1) s:=h.mono om;have ht:=h.t;unfold aX;split;·exact a
 ·split
  ·unfold gH;split
   ·split
    ·split;·rename_i c;exact⟨c,by show(ln s.t)<=_;omega⟩
     ·exact a
    ·exact a
   ·exact a
  ·split
   ·unfold k8;split
    ·split
     ·split;·exact⟨L7 _ h.b,by show(ln s.t)<=_;omega⟩
      ·exact a
     ·exact a
    ·exact a
   ·split
    ·unfold vB;split
     ·split;·exact⟨h.b,by show(ln (s.t++[_]))<=_;simp;omega⟩
      ·exact a
     ·exact a
    ·split
     ·unfold rW;split;·exact⟨KQ _ _ h.b,by show(ln ([]:List Bx))<=_;simp⟩
      ·exact a
     ·split
      ·unfold n9;split;·exact⟨yD _ _ h.b,by show(ln s.t)<=_;omega⟩
       ·exact a
      ·split
       ·unfold n9;split;·exact⟨yD _ _ h.b,by show(ln s.t)<=_;omega⟩
        ·exact a
       ·split
        ·unfold mZ;split
         ·split;·exact⟨FN _ h.b,by show(ln s.t)<=_;omega⟩
          ·exact a
         ·exact a
        ·split
         ·unfold yK;split<;>exact a
         ·split
          ·unfold oC;split;·split<;>exact a
           ·exact a
          ·exact a
open Go.BigFrame
variable {S:Nat → Prop}{w w':Wd}{s b:Bk}{a:List Fx}{l:List Bx}{z n c:Nat}{k:Oa}
structure BkIn (w:World)(b:Bk):Prop where
 f:Xs 3 Fx.cells w b.fa b.fl
 h:Xs 3 Hx.cells w b.ha b.hl
 i:∀h∈b.hl,h.In w
structure eI (S:Nat->Prop)(w:World)(s b:Bk):Prop where
 c:K8 s.now s.fl s.hl b
 i:∀w',aU S w w'->BkIn w' b
 f1:b.fl.length<=b.fc
 f2:b.fc<=9223372036854775807
theorem eI.but (h:eI S w s b)(d:aU S w w'):eI S w' s b:=⟨h.c,λe a=>h.i e (d.trans a),h.f1,h.f2⟩
theorem eI.zL {w w':Wd}(h:eI S w s b)(a:aG w w'):eI S w' s b:=h.but (aU.below a)
theorem eI.inn (h:eI S w s b):BkIn w b:=h.i w (aU.refl _ _)
theorem eI.book (h:eI S w s b):aO b=aO s:=nS h.c.now h.c.fl h.c.lk
theorem CI (h:aQ a l=true):ln l<=40:=by
 simp only[aQ,bat]at h;have:=h.1;simp[oO]at this;omega
theorem vN (h:aO b=true):∀x∈b.hl,x.Fit/\(ln x.tl)<=40/\(ln x.nl)<=40/\x.n.size<=8/\(∀y∈x.tl,aK y=true)/\(∀y∈x.nl,aK y=true):=λx hx=>by
 obtain⟨_,_,_,c⟩:=dQ.1 h;have e:=lat.1 (jO.1 c).1.1 x hx;have a:=(jO.1 c).2.1 x hx;have d:=rI a;simp only[cK,bat,bot]at a;simp only[cO,wI,bat,dte]at e;have f:=CI a.1
 have i:ln x.nl<=40:=by
  rcases a.2.2 with g|g;·rw[List.isEmpty_iff.1 g];simp
  ·exact CI g.1
 exact⟨⟨om,om,om⟩,f,i,e.1.2,lat.1 d.t,lat.1 d.n⟩
theorem IF (h:aO b=true):ln b.fl<=4/\∀f∈b.fl,f.n.size<=8:=by
 obtain⟨_,a,_,_⟩:=dQ.1 h;simp only[bU,bX,bat,dte]at a;refine⟨a.1,λf c=>?_⟩;have:=lat.1 a.2.1.1 f c;simp only[cO,wI,bat,dte]at this;exact this.1.2
theorem eI.asks (h:eI S w s b)(d:aO s=true):iX w b:=by
 have a:aO b=true:=h.book.trans d;obtain⟨f1,c⟩:=IF a;have:=kD a;exact⟨h.inn.f,om,h.f1,h.f2,λf e=>by have:=c f e;omega,h.inn.h,om,λx hx=>⟨h.inn.i x hx,(vN a x hx).1⟩⟩
theorem eI.ok (h:eI S w s b)(c:aO s=true):pQ b w:=λ_ a=>pX ((h.asks c).zL a) _ rfl
theorem LP (h:aN w z (.slice k n c) l):∀x,k=some x->z<=x.block:=λx hx=>by
 rcases h with⟨e,_⟩|⟨g,cap,e,b,_⟩;·cases e;cases hx
 ·cases e;cases hx;exact b
theorem dS.stay (h:dS z w b)(c:∀k,S k->k<z):∀w',aU S w w'->BkIn w' b:=λw' d=>
 ⟨(h.f.but d c).xs Fx.cells_length,(h.h.but d c).xs Hx.cells_length,λx hx=>⟨((h.t x hx).t.but d (λa e g=>by have:=LP (h.t x hx).t a e;have:=c _ g;omega)).xs,((h.t x hx).n.but d (λa e g=>by have:=LP (h.t x hx).n a e;have:=c _ g;omega)).xs⟩⟩
theorem dS.at (h:dS z w b)(l:∀k,S k->k<z)(m:K8 s.now s.fl s.hl b):eI S w s b:=
 ⟨m,h.stay l,by
  rcases h.f with⟨e,d⟩|⟨g,a,e,_,i,_⟩;·rw[d];exact nz _
  ·have j:b.fc=a:=by injection e
   rw[j];exact i,h.c _ _ _ rfl⟩
theorem iI.spS (h:iI z w b):dS z w b:=⟨h.f,h.h,h.t,λa n c e=>by cases e;exact h.cf⟩
theorem FJ {S S':Nat->Prop}(h:eI S w s b)(d:aO s=true)(nm:Ba)(took:Bool)(p:∀k,S' k->k<w.heap.size):
 aW 29 #[b.val,.string nm,.bool took] w λe w'=>(∃b',e=rt (.tuple #[Bk.val b',I (cG s nm)])/\eI S' w' (dN s s.now (dI s nm took)) b')/\aG w w':=by
 have ha:=h.asks d;refine(vG b nm took w (h.ok d) ha.hf ha.hnf ha.hh ha.hnh ha.hgood).mono ?_;rintro e w' ⟨o,f⟩;refine⟨?_,f⟩;obtain⟨l,m⟩:=yP (b:=s) (b1:=b) h.c.lk nm took;rcases o with⟨a,_⟩|⟨_,b',rfl,g,i,j,n⟩;·rw[h.book,d]at a;cases a
 ·exact⟨b',by rw[l],n.at p ⟨g.trans h.c.now,i.trans h.c.fl,m.trans j⟩⟩
theorem SE {S S':Nat->Prop}(r:l8 w)(h:eI S w s b)(g:aO s=true)(nm:Ba)(took:Bool)(u:∀k,S' k->k<w.heap.size):
 aW 127 #[b.val,.string nm,.bool took] w λe w'=>(∃b',e=rt (.tuple #[Bk.val b',I (cG s nm)])/\eI S' w' (dN s s.now (dI s nm took)) b')/\aG w w':=by
 have ha:=h.asks g;refine(I2 b nm took w r ha.hf ha.hnf ha.hcap ha.hc2 ha.hs ha.hh ha.hnh ha.hgood).mono ?_;rintro e w' ⟨q,d⟩;refine⟨?_,d⟩;obtain⟨o,p⟩:=yP (b:=s) (b1:=b) h.c.lk nm took;rcases q with⟨a,_⟩|⟨a,b1,i,f,b'',c,v,⟨rfl,rfl⟩,rfl,t⟩;·rw[h.book,g]at a;cases a
 ·obtain⟨j,l,m,n⟩:=QP (took:=took) a v;exact⟨_,by rw[j,o],t.spS.at u ⟨l.trans h.c.now,m.trans h.c.fl,p.trans n⟩⟩
theorem QF {S S':Nat->Prop}(h:eI S w s b)(f:aO s=true)(nm:Ba)(a:List Bx)(ta:Oa)(i:Nat)(u:jG w ta a)(t:ln a<=1048576)(r:∀k,S' k->k<w.heap.size):
 aW 28 #[b.val,.string nm,.slice ta (ln a) i] w λe w'=>(∃b',e=rt (.tuple #[Bk.val b',I (dX s nm a)])/\eI S' w' (dN s s.now (gA s nm a)) b')/\aG w w':=by
 have ha:=h.asks f;refine(tG b nm a ta i w (h.ok f) (ha.with u t)).mono ?_;rintro e w' ⟨q,g⟩;refine⟨?_,g⟩;obtain⟨n,o⟩:=A6 (b:=s) (b1:=b) h.c.now h.c.fl h.c.lk nm a;rcases q with⟨d,_⟩|⟨_,b',rfl,j,l,m,p⟩;·rw[h.book,f]at d;cases d
 ·exact⟨b',by rw[n],p.at r ⟨j.trans h.c.now,l.trans h.c.fl,o.trans m⟩⟩
theorem OG {S S':Nat->Prop}(u:l8 w)(h:eI S w s b)(l:aO s=true)(nm:Ba)(d:List Bx)(ta:Oa)(m:Nat)(z:jG w ta d)(y:ln d<=1048576)(x:∀k,S' k->k<w.heap.size):
 aW 81 #[b.val,.string nm,.slice ta (ln d) m] w λe w'=>(∃b',e=rt (.tuple #[Bk.val b',I (dX s nm d)])/\eI S' w' (dN s s.now (gA s nm d)) b')/\aG w w':=by
 have ha:=h.asks l;refine(ED b nm d ta m w u ha.hf ha.hnf ha.hcap ha.hc2 ha.hs ha.hh ha.hnh ha.hgood z y).mono ?_;rintro e w' ⟨t,g⟩;refine⟨?_,g⟩;obtain⟨q,r⟩:=A6 (b:=s) (b1:=b) h.c.now h.c.fl h.c.lk nm d;rcases t with⟨a,_⟩|⟨a,b1,i,f,b'',c,j,⟨rfl,n,o,p⟩,rfl,v⟩;·rw[h.book,l]at a;cases a
 ·obtain⟨q1,A⟩:=U7 d a j;exact⟨_,by rw[q1,q],v.spS.at x ⟨(n.trans j.now).trans h.c.now,(o.trans j.fl).trans h.c.fl,(r.trans A).trans p⟩⟩
theorem ST {S S':Nat->Prop}(h:eI S w s b)(d:aO s=true)(n:Int)(r:∀k,S' k->k<w.heap.size):
 aW 30 #[b.val,I n] w λe w'=>(∃b',e=rt (.tuple #[Bk.val b',I (cX s n)])/\eI S' w' (dN s (fK s n) (eU s n)) b')/\aG w w':=by
 have ha:=h.asks d;refine(vO b n w (h.ok d) ha.hf ha.hnf ha.hh ha.hnh ha.hgood).mono ?_;rintro e w' ⟨q,f⟩;refine⟨?_,f⟩;obtain⟨l,m,o⟩:=xE (b:=s) (b':=b) n h.c.now h.c.lk;rcases q with⟨a,_⟩|⟨_,b',rfl,g,i,j,p⟩;·rw[h.book,d]at a;cases a
 ·exact⟨b',by rw[l],p.at r ⟨g.trans m,i.trans h.c.fl,o.trans j⟩⟩
theorem UK {S S':Nat->Prop}(q:l8 w)(h:eI S w s b)(f:aO s=true)(n:Int)(t:∀k,S' k->k<w.heap.size):
 aW 83 #[b.val,I n] w λe w'=>(∃b',e=rt (.tuple #[Bk.val b',I (cX s n)])/\eI S' w' (dN s (fK s n) (eU s n)) b')/\aG w w':=by
 have ha:=h.asks f;refine(IQ b n w q ha.hf ha.hnf ha.hcap ha.hc2 ha.hs ha.hh ha.hnh ha.hgood).mono ?_;rintro e w' ⟨⟨v,rfl,p⟩,d⟩;refine⟨?_,d⟩;obtain⟨l,m,o⟩:=xE (b:=s) (b':=b) n h.c.now h.c.lk;rcases p with⟨a,_⟩|⟨_,b',rfl,g,i,j,r⟩;·rw[h.book,f]at a;cases a
 ·exact⟨b',by rw[l],r.spS.at t ⟨g.trans m,i.trans h.c.fl,o.trans j⟩⟩
theorem sS (h:K8 s.now s.fl s.hl b)(t:List Bx)(a:Int):dE b t a=dE s t a:=by
 rw[dE,dE,nS h.now h.fl h.lk,h.fl]
theorem AD (h:K8 s.now s.fl s.hl b)(nm:Ba)(t:List Bx):lF b nm t=lF s nm t:=by
 funext d;unfold lF;rw[WJ h.lk (F:=λx=>tW nm x.n=true/\(EC t x.tl d∨EC t x.nl d)) (λa b g=>by rw[g.n,g.t,g.x])]
theorem TM (h:eI S w s b)(j:aO s=true)(nm:Ba)(d:List Bx)(ta:Oa)(i:Nat)(a:Int)(n:jG w ta d)(k:ln d<=1048576):
 aW 94 #[b.val,.string nm,.slice ta (ln d) i,I a] w λe w'=>(∃v,e=rt v/\lI w' w.heap.size v (oX s nm d a)/\eV s nm d a (oX s nm d a))/\aG w w':=by
 refine(G9 b nm d ta i a w ((h.asks j).with n k)).mono ?_;rintro e w' ⟨⟨v,l,rfl,m,g⟩,f⟩;unfold eV at g;rw[sS h.c,AD h.c]at g;have e:=DE (b:=s) g;exact⟨⟨v,rfl,by rw[e];exact m,by rw[e];exact g⟩,f⟩
theorem TC (h:eI S w s b)(j:aO s=true)(nm:Ba)(d:List Bx)(ta:Oa)(i:Nat)(a:Int)(n:jG w ta d)(k:ln d<=1048576):
 aW 85 #[b.val,.string nm,.slice ta (ln d) i,I a] w λe w'=>(∃v,e=rt v/\lI w' w.heap.size v (oX s nm d a)/\eV s nm d a (oX s nm d a))/\aG w w':=by
 refine(GT b nm d ta i a w ((h.asks j).with n k)).mono ?_;rintro e w' ⟨⟨v,l,rfl,m,g⟩,f⟩;unfold eV at g;rw[sS h.c,AD h.c]at g;have e:=DE (b:=s) g;exact⟨⟨v,rfl,by rw[e];exact m,by rw[e];exact g⟩,f⟩
theorem UZ (h:eI S w s b)(j:aO s=true)(nm:Ba)(d:List Bx)(ta:Oa)(i:Nat)(a:Int)(l:jG w ta d)(k:ln d<=1048576):
 aW 95 #[b.val,.string nm,.slice ta (ln d) i,I a] w λe w'=>(e=rt (eF (qO s nm d a))/\eG s nm d a (qO s nm d a))/\aG w w':=by
 refine(xD b nm d ta i a w ((h.asks j).with l k)).mono ?_;rintro e w' ⟨⟨o,rfl,g⟩,f⟩;unfold eG at g;rw[sS h.c,AD h.c]at g;have e:=DJ (b:=s) g;exact⟨⟨by rw[e],by rw[e];exact g⟩,f⟩
theorem VJ (h:eI S w s b)(j:aO s=true)(nm:Ba)(d:List Bx)(ta:Oa)(i:Nat)(a:Int)(l:jG w ta d)(k:ln d<=1048576):
 aW 87 #[b.val,.string nm,.slice ta (ln d) i,I a] w λe w'=>(e=rt (eF (qO s nm d a))/\eG s nm d a (qO s nm d a))/\aG w w':=by
 refine(yC b nm d ta i a w ((h.asks j).with l k)).mono ?_;rintro e w' ⟨⟨o,rfl,g⟩,f⟩;unfold eG at g;rw[sS h.c,AD h.c]at g;have e:=DJ (b:=s) g;exact⟨⟨by rw[e],by rw[e];exact g⟩,f⟩
end Go.Proofs.YtoolgmmljacfmaaGreatDoor
namespace Go.Proofs.YtoolgmmljacfmaaGreatDoor
open Go.BigFrame
variable {D n:Nat}{s:St}{b k:Bk}{ta:Oa}{w:Wd}{nm:Ba}{t:List Bx}{a d:Int}{l:List Sp}
structure o9 (D:Nat)(w:World)(s:St)(b:Bk)(ta:Option Addr)(tc:Nat):Prop where
 o:w.heap[D]?=some (.cells #[.int .i64 b.now,.slice b.fa b.fl.length b.fc,.slice b.ha b.hl.length b.hc,.slice ta s.t.length tc] 70)
 b:eI (λk=>k=D) w s.b b
 t:∀w',aU (λk=>k=D) w w'->jG w' ta s.t
theorem o9.zL {w w':Wd}(h:o9 D w s b ta n)(a:aG w w'):o9 D w' s b ta n:=
 ⟨bJ h.o a,h.b.zL a,λe d=>h.t e ((aU.below a).trans d)⟩
theorem o9.c (h:o9 D w s b ta n):w.cell? (Y D 0)=some (I b.now)/\w.cell? (Y D 1)=some (.slice b.fa (ln b.fl) b.fc)/\w.cell? (Y D 2)=some (.slice b.ha (ln b.hl) b.hc)/\w.cell? (Y D 3)=some (.slice ta (ln s.t) n):=⟨aB h.o rfl,aB h.o rfl,aB h.o rfl,aB h.o rfl⟩
theorem o9.tb (h:o9 D w s b ta n):jG w ta s.t:=h.t w (aU.refl _ _)
theorem TR (o:Ba)(p:Sp)(c:p.lo<=2000000)(d:p.hi<=2000000):(nB o p).size<=o.size+4000004:=by
 have:=bD c;have:=bD d;have a:WC.size=1:=rfl;have b:sSp.size=1:=rfl;simp only[nB,bsz,a,b];omega
theorem xY (l:List Sp)(h:∀p∈l,p.lo<=2000000/\p.hi<=2000000):∀o:Ba,(l.foldl nB o).size<=o.size+ln l*4000004:=by
 induction l with
 |nil=>intro o;simp
 |cons p r ih=>
  intro o;obtain⟨a,b⟩:=h p sm;have:=ih (λq c=>h q (by simp[c])) (nB o p);have:=TR o p a b;simp only[List.foldl_cons,llc];omega
theorem zO (h:eV k nm t a l):∀p∈l,0<=p.lo/\p.lo<=2000000/\0<=p.hi/\p.hi<=2000000:=λp d=>by
 cases e:dE k t a with
 |false=>rw[h.2 e]at d;cases d
 |true=>
  have hm:a<=300:=by
   simp only[dE,bat,dte]at e;exact e.1.2
  obtain⟨f,_⟩:=h.1 e;have h1:=f.b p d;have h2:=f.c.ne p d;omega
theorem IA (h:eG b nm t a (some d)):0<=d/\d<=2000000:=by
 cases e:dE b t a with
 |false=>have:=h.2 e;cases this
 |true=>
  have hm:a<=300:=by
   simp only[dE,bat,dte]at e;exact e.1.2
  have:=h.1 e;exact⟨this.1,by have:=this.2.1;omega⟩
def DB2 (D:Nat)(b:Bk)(nm:ByteArray)(tv:Value)(most:Int)(j:Nat)(v:Value)(_w:World):Prop:=
 match j with
 |0|1|5|6=>v=(E D 0)
 |2=>v=(E D 0)
 |3=>v=b.val
 |4=>v=.string nm
 |7=>v=(E D 3)
 |8=>v=tv
 |9=>v=I most
 |_=>True
def DB7 (D:Nat)(b:Bk)(nm:ByteArray)(tv:Value)(most:Int)(o:Option Int)(E:Prop)(j:Nat)(v:Value)(_w:World):Prop:=
 match j with
 |0|1|5|6=>v=.pointer (some (Y D 0))
 |2=>v=.pointer (some (Y D 0))
 |3=>v=b.val
 |4=>v=.string nm
 |7=>v=.pointer (some (Y D 3))
 |8=>v=tv
 |9=>v=I most
 |10=>v=.tuple #[I (o.getD 0),.bool o.isSome]/\E
 |11=>v=.tuple #[I (o.getD 0),.bool o.isSome]
 |12|14=>v=I (o.getD 0)
 |13=>v=.bool o.isSome
 |_=>True
def DB6 (g off n cap k:Nat)(p:Sp)(s0 s1 s2 s3 s4 s5 s6:ByteArray)(j:Nat)(v:Value)(_w:World):Prop:=
 match j with
 |0=>v=.string s0
 |1|9=>v=.slice (some (Y g off)) n cap
 |2|10=>v=I (k:Int)
 |3|4|11=>v=(E g (off+k*2))
 |5=>v=I p.lo
 |6=>v=.string s1
 |7=>v=.string s2
 |8=>v=.string s3
 |12=>v=(E g (off+k*2+1))
 |13=>v=I p.hi
 |14=>v=.string s4
 |15=>v=.string s5
 |16=>v=.string s6
 |_=>True
theorem JZ (o:Option Int):eF o=.tuple #[I (o.getD 0),.bool o.isSome]:=by cases o<;>rfl
theorem SP (D:Nat)(w:Wd)(s:St)(b:Bk)(ta:Oa)(U k:Nat)(nm:Ba)(a:Int)(J:o9 D w s b ta U)(G:jF k s)(hk:k<=1048576):
 aW 53 #[E D 0,.string nm,I a] w λe w'=>e=rt (.string (nO s.b nm s.t a))/\aG w w':=by
 go_enter Tryz.func53,Tryz.ntmps53
 go_upto_region 2 with fail
 refine pG 10 [some 12,some 13,some 14,some 15,some 16,some 17,some 18,some 19,some 20,some 21] (DB2 D b nm (.slice ta (ln s.t) U) a) (λ_ _ _ _ h _=>h) ?step ?fin
 case step=>
  intro ii o i w' A B m j;obtain⟨zm,zn,zs,zt⟩:=(J.zL m).c
  match ii,A with
  |1,_|2,_|3,_|6,_|7,_|8,_=>
   cases B
   simp[Region.binds,DB2]at j
   simp only[aD,Act.put,j];gi_wp2;exact⟨_,by simp[aH,j],rfl,br _ _⟩
  |0,_|4,_|5,_|9,_=>
   cases B
   gi_wp2;exact⟨_,uhx,rfl,br _ _⟩
  |q+10,h=>omega
 case fin=>
  intro i w8 m f;have N:i 3=b.val:=f 3 dz;have P:i 4=.string nm:=f 4 dz;have e8:i 8=.slice ta (ln s.t) U:=f 8 dz;have e9:i 9=I a:=f 9 dz;have F:Hid _:=J.zL m;have n:=aI m;clear f m J;simp only[lds,ldz,aD,Act.put];rw[N,P,e8,e9];clear N P e8 e9;generalize i=i;gi_wp2_with fail
  refine tqx ?_;refine(cw.2 (TM F.oQ.b G.b nm s.t ta U a F.oQ.tb (by have:=G.t;omega))).mono ?_;rintro e w9 ⟨⟨v,rfl,hO,hI⟩,r⟩;obtain⟨L,hL⟩:=bQ (oX s.b nm s.t a);rw[←hL]at hO hI;have HL:=aI hL;have S:=zO hI;have hl3:=hI.len;clear hL hI;obtain⟨ao,cp,rfl⟩:=bW.slice hO;have zb:Hid (Xs 2 Sp.cells w9 ao L):=bW.xs (c:=Sp.cells) (sz:=2) (t:=134) (λ_=>rfl) hO;have C:=aI (aE n.oQ r);have za:Hid _:=F.oQ.zL r;clear hO r F n;gi_wp2_with fail
  go_wp2
  obtain⟨W9,hW9⟩:=bQ w9
  go_loopw [7,9] (λov iv wr=>∃k:Nat,k<=ln L/\ov=.string ((L.take k).foldl nB ⟨#[]⟩)/\iv=I k/\aG w9 wr) (λ_ iv _=>ln L-(intOf iv).toNat)
  case atStart=>exact⟨0,nz _,rfl,rfl,br _ _⟩
  case round=>
   obtain⟨k,hk,rfl,rfl,V⟩:=hrel;have H:=xY (L.take k) (λp f=>⟨(S p (lmt f)).2.1,(S p (lmt f)).2.2.2⟩) ⟨#[]⟩;have K:ln (L.take k)<=301:=by rw[llt];omega
   have zl:(ByteArray.mk #[]).size=0:=rfl
   by_cases u:k<ln L
   ·have ze:(k:Int)<(ln L:Int):=om
    rcases zb.oQ.zL V with h|⟨g,T,zp,R⟩
    ·rw[h]at u;simp at u
    subst zp;have k0:wr.cell? (Y g (T+k*2))=some (I L[k].lo):=R k u 0 _ rfl;have k1:wr.cell? (Y g (T+k*2+1))=some (I L[k].hi):=R k u 1 _ rfl;obtain⟨zg,zh,zi,zj⟩:=S _ (lgm u);have l:(L.take (k+1)).foldl nB ⟨#[]⟩=nB ((L.take k).foldl nB ⟨#[]⟩) L[k]:=by rw[tsa u,List.foldl_append];rfl
    obtain⟨s0,zk⟩:∃s,s=(L.take k).foldl nB ⟨#[]⟩:=⟨_,rfl⟩;obtain⟨p,f⟩:=bQ (L[k]);rw[←zk]at l H ⊢;rw[←f]at l k0 k1 zg zh zi zj;clear zk f R;obtain⟨W,e1⟩:∃s,s=dH p.lo:=⟨_,rfl⟩;obtain⟨s2,e2⟩:∃s,s=s0++W:=⟨_,rfl⟩;obtain⟨s3,N⟩:∃s,s=s2++⟨#[45]⟩:=⟨_,rfl⟩;obtain⟨X,P⟩:∃s,s=dH p.hi:=⟨_,rfl⟩;obtain⟨s5,e5⟩:∃s,s=s3++X:=⟨_,rfl⟩;obtain⟨s6,e6⟩:∃s,s=s5++⟨#[32]⟩:=⟨_,rfl⟩;have z1:W.size<=2000001:=by rw[e1];exact bD zh
    have z2:s2.size=s0.size+W.size:=by rw[e2,bsz]
    have z3:s3.size=s2.size+1:=by rw[N,bsz];rfl
    have z4:X.size<=2000001:=by rw[P];exact bD zj
    have z5:s5.size=s3.size+X.size:=by rw[e5,bsz]
    have g2:¬9223372036854775807<s0.size+W.size:=om
    have g3:¬9223372036854775807<s2.size+1:=om
    have g5:¬9223372036854775807<s3.size+X.size:=om
    have g6:¬9223372036854775807<s5.size+1:=om
    have HT:Hid ((L.take (k+1)).foldl nB ⟨#[]⟩=s6):=by rw[Hid,l,nB,←e1,←P];show s0++W++⟨#[45]⟩++X++⟨#[32]⟩=s6;rw[←e2,←N,←e5,←e6]
    have E1:Hid _:=e1;have E4:Hid _:=P;have e2':=e2.symm;have e3':=N.symm;have e5':=e5.symm;have e6':=e6.symm;clear z1 z2 z3 z4 z5 e1 e2 N P e5 e6 l H K zl
    go_upto_region 6 with fail
    refine pG 17 [some 29,some 30,some 31,some 32,some 33,some 34,some 35,some 36,some 37,some 38,some 39,some 40,some 41,some 42,some 43,some 44,some 45] (DB6 g T (ln L) cp k p s0 W s2 s3 X s5 s6) (λ_ _ _ _ h _=>h) ?step ?fin
    case step=>
     intro ii o i w' A B m j;have zm:=ctq m k0;have zn:=ctq m k1
     match ii,A with
     |3,_|4,_|5,_|7,_|8,_|11,_|12,_|13,_|15,_|16,_=>
      cases B
      simp[Region.binds,DB6]at j
      simp only[aD,Act.put,j];gi_wp2;exact⟨_,by simp[aH,j],rfl,br _ _⟩
     |0,_|1,_|2,_|9,_|10,_=>
      cases B
      gi_wp2;exact⟨_,uhx,rfl,br _ _⟩
     |6,_=>
      cases B
      simp[Region.binds,DB6]at j
      simp only[aD,Act.put,j];gi_wp2_with fail
      refine tqx ?_;refine(cw.2 (mT p.lo w' zg om)).mono ?_;rintro e w5 ⟨rfl,z⟩;rw[←E1.out];gi_wp2;exact⟨_,by simp[aH,j],rfl,z⟩
     |14,_=>
      cases B
      simp[Region.binds,DB6]at j
      simp only[aD,Act.put,j];gi_wp2_with fail
      refine tqx ?_;refine(cw.2 (mT p.hi w' zi om)).mono ?_;rintro e w5 ⟨rfl,z⟩;rw[←E4.out];gi_wp2;exact⟨_,by simp[aH,j],rfl,z⟩
     |q+17,h=>omega
    case fin=>
     intro i w8 m f;have zc:i 16=.string s6:=f 16 dz;have n:=aI m;clear f m;simp only[lds,ldz,aD,Act.put];rw[zc];clear zc;generalize i=i;gi_wp2_with fail
     go_wp2
     go_roundw
     case rel=>exact⟨k+1,om,by rw[HT.oQ],gn,aE V n.oQ⟩
     case measure=>simp[intOf];omega
   ·have ze:¬(k:Int)<(ln L:Int):=om
    have zd:L.take k=L:=ltl om;rw[zd]at H K ⊢;clear zd;obtain⟨O,Q⟩:=bQ (L.foldl nB ⟨#[]⟩);rw[←Q]at H ⊢;have Z:=aI Q;clear Q;have J:o9 D wr s b ta U:=za.oQ.zL V;obtain⟨o,zf⟩:=bQ (qO s.b nm s.t a);have HO:=aI zf;clear zf zb
    replace V:aG w wr:=aE C.oQ V
    clear za C
    go_upto_region 7 with fail
    refine pG 15 [some 47,some 48,some 49,some 50,some 51,some 52,some 53,some 54,some 55,some 56,some 57,some 46,some 58,some 59,some 10] (DB7 D b nm (.slice ta (ln s.t) U) a o (eG s.b nm s.t a o)) (λ_ _ _ _ h _=>h) ?step ?fin
    case step=>
     intro ii o i w' A B m j;obtain⟨zm,zn,zs,zt⟩:=(J.zL m).c
     match ii,A with
     |1,_|2,_|3,_|6,_|7,_|8,_|11,_|12,_|13,_|14,_=>
      cases B
      simp[Region.binds,DB7]at j
      simp only[aD,Act.put,j];gi_wp2;exact⟨_,by simp[aH,j],rfl,br _ _⟩
     |0,_|4,_|5,_|9,_=>
      cases B
      gi_wp2;exact⟨_,uhx,rfl,br _ _⟩
     |10,_=>
      cases B
      simp[Region.binds,DB7]at j
      simp only[aD,Act.put,j];gi_wp2_with fail
      refine tqx ?_;refine(cw.2 (UZ (J.zL m).b G.b nm s.t ta U a (J.zL m).tb (by have:=G.t;omega))).mono ?_;rintro e w5 ⟨⟨rfl,hE⟩,z⟩;rw[←HO.oQ]at hE;rw[←HO.oQ,JZ];have HE:=aI hE;clear hE;gi_wp2;exact⟨_,by simp[aH,j],⟨rfl,HE.oQ⟩,z⟩
     |q+15,h=>omega
    case fin=>
     intro i w8 m f;have HE:Hid (eG s.b nm s.t a o):=(f 10 dz).2;have n:=aI (aE V m);clear m J
     cases o with
     |none=>
      have x:i 13=.bool false:=f 13 dz;have y:i 14=I 0:=f 14 dz;clear f;simp only[lds,ldz,aD,Act.put];rw[x,y];clear x y;generalize i=i;have M:Hid (nO s.b nm s.t a=O++⟨#[110,101,118,101,114]⟩):=by rw[Hid,nO,←HO.oQ,←HL.oQ,←Z.oQ];rfl
      have g1:¬9223372036854775807<O.size+5:=om
      gi_wp2_with fail
      go_wp2
      go_ret;exact⟨by rw[M.oQ];rfl,n.oQ⟩
     |some d=>
      have x:i 13=.bool true:=f 13 dz;have y:i 14=I d:=f 14 dz;clear f;simp only[lds,ldz,aD,Act.put];rw[x,y];clear x y;generalize i=i;obtain⟨zq,zr⟩:=IA HE.oQ;have M:Hid (nO s.b nm s.t a=O++⟨#[102,114,101,101,32]⟩++dH d):=by rw[Hid,nO,←HO.oQ,←HL.oQ,←Z.oQ];rfl
      have g1:¬9223372036854775807<O.size+5:=om
      have hds:=bD zr;have g2:¬9223372036854775807<O.size+5+(dH d).size:=om
      gi_wp2_with fail
      go_wp2_with fail
      refine(mT d w8 zq om).mono ?_;rintro e w9 ⟨rfl,r⟩;have C:=aI (aE n.oQ r);clear r;go_wp2
      go_ret;exact⟨by rw[M.oQ];rfl,C.oQ⟩
variable {l:List Bx}{h:Hx}{s:Bk}
theorem lS (hn:ln l<=40)(h:∀b∈l,b.i<=2000000/\b.o<=2000000):(iS l).size<=6000005:=by
 cases l with
 |nil=>show(⟨#[45]⟩:Ba).size<=_;decide
 |cons b r=>
  have h1:=bD (n:=(ln (b::r):Int)) om;have h2:=bD (h b sm).1;have h3:=bD (h _ (List.getLast_mem (l:=b::r) sm)).2;have a:(⟨#[64]⟩:Ba).size=1:=rfl;have c:(⟨#[45]⟩:Ba).size=1:=rfl;simp only[iS,bsz,a,c];omega
theorem sZ (h:∀y∈l,aK y=true):∀b∈l,0<=b.i/\b.i<=2000000/\0<=b.o/\b.o<=2000000:=λb a=>by
 have:=h b a;simp only[aK,dte]at this;omega
theorem pB (h:∀y∈l,aK y=true):∀b∈l,b.i<=2000000/\b.o<=2000000:=λb a=>⟨(sZ h b a).2.1,(sZ h b a).2.2.2⟩
theorem OT (o:Ba)(h1:(iS h.tl).size<=6000005)(h2:(iS h.nl).size<=6000005)(h3:h.n.size<=8):(mY o h).size<=o.size+12000021:=by
 have a:sSp.size=1:=rfl;have b:(⟨#[58]⟩:Ba).size=1:=rfl;have c:(⟨#[47]⟩:Ba).size=1:=rfl;simp only[mY,bsz,a,b,c];omega
theorem DG (l:List Hx)(h:∀x∈l,(iS x.tl).size<=6000005/\(iS x.nl).size<=6000005/\x.n.size<=8):∀o:Ba,(l.foldl mY o).size<=o.size+ln l*12000021:=by
 induction l with
 |nil=>intro o;simp
 |cons p r ih=>
  intro o;obtain⟨a,b,c⟩:=h p sm;have:=ih (λq d=>h q (by simp[d])) (mY o p);have:=OT o a b c;simp only[List.foldl_cons,llc];omega
theorem CR (h:K8 s.now s.fl s.hl b):rC b=rC s:=by
 have e:∀(l:List Hx) (o:Ba),l.foldl mY o=(l.map (λx=>(x.n,x.tl,x.nl))).foldl (λo k=>o++sSp++k.1++⟨#[58]⟩++iS k.2.1++⟨#[47]⟩++iS k.2.2) o:=λl o=>by rw[List.foldl_map];rfl
 unfold rC;rw[e,e,h.now,h.lk.map (λx=>(x.n,x.tl,x.nl)) (λa b g=>by simp[g.n,g.t,g.x])]
def DH6 (H:Nat)(x:Hx)(s0 s1 s2 s3 s4 s5 s6 s7 s8:ByteArray)(j:Nat)(v:Value)(_w:World):Prop:=
 match j with
 |0=>v=.string s0
 |1=>v=.string s1
 |2=>v=(E H 0)
 |3=>v=.string x.n
 |4=>v=.string s2
 |5=>v=.string s3
 |6=>v=(E H 1)
 |7=>v=.slice x.ta x.tl.length x.tc
 |8=>v=.string s4
 |9=>v=.string s5
 |10=>v=.string s6
 |11=>v=(E H 2)
 |12=>v=.slice x.na x.nl.length x.nc
 |13=>v=.string s7
 |14=>v=.string s8
 |_=>True
theorem VG (D:Nat)(w:Wd)(s:St)(b:Bk)(ta:Oa)(tc k:Nat)(P:o9 D w s b ta tc)(zs:jF k s):
 aW 51 #[E D 0] w λe w'=>e=rt (.string (rC s.b))/\aG w w':=by
 have G:aO b=true:=P.b.book.trans zs.b;have K:=vN G;have h16:=kD G
 have zb:0<=b.now/\b.now<=10000:=by
  have:=(dQ.1 G).1
  rwa[oL,dte]at this
 have m:∀x∈b.hl,(iS x.tl).size<=6000005/\(iS x.nl).size<=6000005/\x.n.size<=8:=λx hx=>by
  obtain⟨_,h1,h2,h3,h4,h5⟩:=K x hx;exact⟨lS h1 (pB h4),lS h2 (pB h5),h3⟩
 have zl:=aI (CR P.b.c);obtain⟨c0,c1,c2,c3⟩:=P.c;clear G
 go_enter Tryz.func51,Tryz.ntmps51
 go_wp2_with fail
 refine(mT b.now w zb.1 om).mono ?_;rintro e w1 ⟨rfl,f⟩;have hdn:=bD (n:=b.now) om
 replace P:=P.zL f
 have zi:=aI f;clear f c0 c1 c2 c3;go_wp2
 go_loopw [3,4] (λov iv wr=>∃k:Nat,k<=ln b.hl/\ov=.string ((b.hl.take k).foldl mY (dH b.now))/\iv=I k/\aG w wr/\aG w1 wr) (λ_ iv _=>ln b.hl-(intOf iv).toNat)
 case atStart=>exact⟨0,nz _,rfl,rfl,zi.oQ,br _ _⟩
 case round=>
  obtain⟨k,hk,rfl,rfl,hN,U⟩:=hrel;have O:=DG (b.hl.take k) (λp hp=>m p (lmt hp)) (dH b.now);have L:ln (b.hl.take k)<=16:=by rw[llt];omega
  have M:=P.zL U;obtain⟨c0,c1,c2,c3⟩:=M.c
  by_cases d:k<ln b.hl
  ·have za:(k:Int)<(ln b.hl:Int):=om
   have l:=M.b.inn
   rcases l.h with h|⟨g,off,zm,X⟩
   ·rw[h]at d;simp at d
   rw[zm]at c2;obtain⟨q0,q1,q2⟩:=gN (X k d);obtain⟨_,zp,zq,zr,f,W⟩:=K _ (lgm d);obtain⟨zd,ze,_⟩:=m _ (lgm d);have j:=l.i _ (lgm d);have a:(b.hl.take (k+1)).foldl mY (dH b.now)=mY ((b.hl.take k).foldl mY (dH b.now)) b.hl[k]:=by rw[tsa d,List.foldl_append];rfl
   obtain⟨s0,zc⟩:∃s,s=(b.hl.take k).foldl mY (dH b.now):=⟨_,rfl⟩;obtain⟨x,hx⟩:=bQ (b.hl[k]);rw[←zc]at a O ⊢;rw[←hx]at a q0 q1 q2 zp zq zr f W zd ze j;clear zc hx X l M;obtain⟨s1,r⟩:∃s,s=s0++(⟨#[32]⟩:Ba):=⟨_,rfl⟩;obtain⟨s2,t⟩:∃s,s=s1++x.n:=⟨_,rfl⟩;obtain⟨s3,u⟩:∃s,s=s2++(⟨#[58]⟩:Ba):=⟨_,rfl⟩;obtain⟨Q,v⟩:∃s,s=iS x.tl:=⟨_,rfl⟩;obtain⟨s5,y⟩:∃s,s=s3++Q:=⟨_,rfl⟩;obtain⟨s6,z⟩:∃s,s=s5++(⟨#[47]⟩:Ba):=⟨_,rfl⟩;obtain⟨R,A⟩:∃s,s=iS x.nl:=⟨_,rfl⟩;obtain⟨s8,B⟩:∃s,s=s6++R:=⟨_,rfl⟩;have zt:s1.size=s0.size+1:=by rw[r,bsz];rfl
   have zu:s2.size=s1.size+x.n.size:=by rw[t,bsz]
   have zv:s3.size=s2.size+1:=by rw[u,bsz];rfl
   have zw:Q.size<=6000005:=by rw[v];exact zd
   have zx:s5.size=s3.size+Q.size:=by rw[y,bsz]
   have zy:s6.size=s5.size+1:=by rw[z,bsz];rfl
   have zz:R.size<=6000005:=by rw[A];exact ze
   have yb:s8.size=s6.size+R.size:=by rw[B,bsz]
   have gs1:¬9223372036854775807<s0.size+1:=om
   have gs2:¬9223372036854775807<s1.size+x.n.size:=om
   have gs3:¬9223372036854775807<s2.size+1:=om
   have gs5:¬9223372036854775807<s3.size+Q.size:=om
   have gs6:¬9223372036854775807<s5.size+1:=om
   have gs8:¬9223372036854775807<s6.size+R.size:=om
   have HT:Hid ((b.hl.take (k+1)).foldl mY (dH b.now)=s8):=by rw[Hid,a,mY,←v,←A];show s0++⟨#[32]⟩++x.n++⟨#[58]⟩++Q++⟨#[47]⟩++R=s8;rw[←r,←t,←u,←y,←z,←B]
   have fs1:=r.symm;have fs2:=t.symm;have fs3:=u.symm;have zg:=aI v;have fs5:=y.symm;have fs6:=z.symm;have zh:=aI A;have fs8:=B.symm;clear r zt t zu u zv v zw y zx z zy A zz B yb a O L;have k0:(wr.alloc (ho x)).cell? (ya wr 0)=some (.string x.n):=aB (wnq wr _) rfl;have k1:(wr.alloc (ho x)).cell? (ya wr 1)=some (ts x):=aB (wnq wr _) rfl;have k2:(wr.alloc (ho x)).cell? (ya wr 2)=some (ns x):=aB (wnq wr _) rfl;have F:aG wr (wr.alloc (ho x)):=aC (br _ _) _;have S:=aI (aE hN F);have J:=aI (aE U F)
   replace j:=Hx.In.zL j F
   clear F
   go_upto_region 6 with fail
   obtain⟨W1,V⟩:=cI (wr.alloc (ho x));rw[V]at k0 k1 k2 S J j ⊢;clear V q0 q1 q2 c0 c1 c2 c3;refine pG 15 [some 30,some 31,some 32,some 33,some 34,some 35,some 36,some 37,some 38,some 39,some 40,some 41,some 42,some 43,some 44] (DH6 wr.heap.size x s0 s1 s2 s3 Q s5 s6 R s8) (λ_ _ _ _ h _=>h) ?step ?fin
   case step=>
    intro ii o vs w' zn zf C H;have z0z:=ctq C k0;have z1z:=ctq C k1;have z2z:=ctq C k2
    match ii,zn with
    |1,_|3,_|4,_|5,_|7,_|9,_|10,_|12,_|14,_=>
     cases zf
     simp[Region.binds,DH6]at H
     simp only[aD,Act.put,H];gi_wp2;exact⟨_,by simp[aH,H],rfl,br _ _⟩
    |0,_|2,_|6,_|11,_=>
     cases zf
     gi_wp2;exact⟨_,uhx,rfl,br _ _⟩
    |8,_=>
     cases zf
     simp[Region.binds,DH6]at H
     simp only[aD,Act.put,H];gi_wp2_with fail
     refine tqx ?_;refine(cw.2 (AM x.tl x.ta x.tc w' (j.1.zL C) om (sZ f))).mono ?_;rintro e w5 ⟨rfl,N⟩;rw[←zg.out];gi_wp2;exact⟨_,by simp[aH,H],rfl,N⟩
    |13,_=>
     cases zf
     simp[Region.binds,DH6]at H
     simp only[aD,Act.put,H];gi_wp2_with fail
     refine tqx ?_;refine(cw.2 (AM x.nl x.na x.nc w' (j.2.zL C) om (sZ W))).mono ?_;rintro e w5 ⟨rfl,N⟩;rw[←zh.out];gi_wp2;exact⟨_,by simp[aH,H],rfl,N⟩
    |q+15,h=>omega
   case fin=>
    intro vs w8 C hp;have T:vs 14=.string s8:=hp 14 dz;have zj:=aI (aE S.oQ C);have zk:=aI (aE J.oQ C);clear hp C;simp only[lds,ldz,aD,Act.put];rw[T];clear T;generalize vs=vs;gi_wp2_with fail
    go_wp2
    go_roundw
    case rel=>exact⟨k+1,om,by rw[HT.oQ],gn,zj.oQ,zk.oQ⟩
    case measure=>simp[intOf];omega
  ·have za:¬(k:Int)<(ln b.hl:Int):=om
   have Z:b.hl.take k=b.hl:=ltl om;rw[Z];clear Z O L;go_wp2
   go_ret;exact⟨by rw[←zl.oQ];rfl,hN⟩
variable {z P t:Nat}{w':Wd}{c b':Bk}{l:Array Va}{S:Nat → Prop}{x d:Wx}{n:St}
theorem dS.butT (h:dS z w b)(g:aU (λk=>k=P) w w')(s:w.heap[P]?=some (.cells l t))(m:34≠t)(o:74≠t)(p:91≠t):dS z w' b:=by
 have i:∀{t' n:Nat} {f:Nat->Va},t'≠t->w.rowIs P t' n f->False:=λv d=>by
  obtain⟨c,j,_⟩:=d;rw[s]at j;cases j;exact v rfl
 refine⟨h.f.butRow g (λk _ _ _ d e=>by have a:k=P:=e;subst a;exact i m d),h.h.butRow g (λk _ _ _ d e=>by have a:k=P:=e;subst a;exact i o d),λx hx=>(h.t x hx).but g (λq u e=>?_),h.c⟩;have a:q=P:=e;subst a;obtain⟨_,_,r⟩:=(h.t x hx).bs_row q u;exact i p r
theorem UI (h:eI S w s b)(f:aO s=true)(hx:iL w d)(p:rK x d):
 aW 27 #[b.val,d.val] w λe w'=>(∃b',e=rt (.tuple #[Bk.val b',iA s (decide (0<=kK s.hl x.n)) x,I (dF s x)])/\K8 s.now s.fl (eY s x) b'/\dS w.heap.size w' b')/\aG w w':=by
 refine(wM b d w (h.ok f) (h.asks f) hx).mono ?_;rintro e w' ⟨o,g⟩;refine⟨?_,g⟩;obtain⟨q,r,i⟩:=FV (b:=s) (b1:=b) h.c.now h.c.fl h.c.lk d;obtain⟨t,u,v⟩:=FT p s;rcases o with⟨a,_⟩|⟨_,b',rfl,j,k,l,m⟩;·rw[h.book,f]at a;cases a
 ·exact⟨b',by rw[q,r,t,u],⟨j.trans h.c.now,k.trans h.c.fl,by rw[v]at i;exact i.trans l⟩,m⟩
abbrev gI (w:World)(D:Nat)(b:Bk):World:=((w.setCell (Y D 0) (I b.now)).setCell (Y D 1) (.slice b.fa b.fl.length b.fc)).setCell (Y D 2) (.slice b.ha b.hl.length b.hc)
theorem dJ (w:Wd)(D:Nat)(b:Bk):aU (λk=>k=D) w (gI w D b):=(((aU.refl (λk=>k=D) w).set (g:=D) rfl _ _).set (g:=D) rfl _ _).set (g:=D) rfl _ _
theorem o9.put (h:o9 z w n b ta P)(a:eI (λk=>k=z) w c b'):o9 z (gI w z b') ⟨c,n.t⟩ b' ta P:=by
 refine⟨?_,a.but (dJ w z b'),λj e=>h.t j ((dJ w z b').trans e)⟩;have f:=aP h.o 0 (I b'.now);have g:=aP f 1 (fs b');have i:=aP g 2 (hs b');exact i
def RO (D:Nat)(w:World)(r:St×ByteArray)(e:Ending)(w':World):Prop:=(∃b ta tc,o9 D w' r.1 b ta tc)/\e=rt (.string r.2)/\aU (λk=>k=D) w w'
theorem o9.fz (h:o9 z w n b ta P):∀i,w.frozen? (Y z i)=false:=λi=>by simp[World.frozen?,h.o]
theorem sM (D:Nat)(w:Wd)(s:St)(b:Bk)(ta:Oa)(r:Nat)(q:o9 D w s b ta r)(n b':Bk)(l:eI (λk=>k=D) w n b')(c:Int)(o:0<=c)(p:c<=2000000):
 aW 50 #[E D 0,b'.val,I c] w λe w'=>RO D w (⟨n,s.t⟩,jC c) e w':=by
 have d:aG w (w.alloc b'.obj):=aC (br _ _) _;have a:=(q.zL d);have HP:=aI (a.put (l.zL d));have h:Hid (aU (λk=>k=D) w (gI (w.alloc b'.obj) D b')):=(aU.below d).trans (dJ _ D b');obtain⟨W0,g⟩:=cI (w.alloc b'.obj);rw[g]at a HP h;obtain⟨c0,c1,c2,c3⟩:=a.c;have cf:=a.fz;have m:W0.heap[w.heap.size]?=some b'.obj:=by rw[←g];exact wnq w _
 obtain⟨k0,k1,k2⟩:=aM m;clear d a m;go_enter Tryz.func50,Tryz.ntmps50;go_wp2_with fail;refine(CV c _ o p).mono ?_;rintro e w2 ⟨rfl,f⟩;have j:Hid _:=HP.oQ.zL f;have i:Hid _:=h.oQ.trans (aU.below f);clear f HP h;go_wp2;go_ret;exact⟨⟨_,_,_,j.oQ⟩,rfl,i.oQ⟩
variable {d g t:List (List Cx)}{s q i j p l:Ba}{a b f c wc lc:Nat}{w u:List Ba}{v:Wd}{n:Bk}{m:Co}{r:List Co}{y e:Oa}{wl:List Yx}{o:Obj}
theorem cC (l:List Ba)(a:Oa)(c:Nat)(w:Wd)(n:Xs 1 eE w a l)(o:ln l<=1048576):
 aW 46 #[.slice a (ln l) c] w λe w'=>(∃v,e=rt (.tuple #[v,.bool (j7 l)])/\(j7 l=true->∃g k,v=.slice g (ln (aS l)) k/\Xs 1 dV w' g (aS l)))/\aG w w':=by
 refine(tI l a c w n o).mono ?_;rintro e w' ⟨⟨d,v,rfl,p⟩|⟨b,v,rfl⟩,i⟩
 ·obtain⟨j,m,rfl,f⟩:=pW (eN l).symm p;exact⟨⟨_,by rw[pY d],λ_=>⟨j,m,rfl,f⟩⟩,i⟩
 ·exact⟨⟨v,by rw[sA b],λh=>by rw[sA b]at h;cases h⟩,i⟩
theorem ZX (l:List Ba)(a:Oa)(b:Nat)(w:Wd)(j:Xs 1 eE w a l)(k:ln l<=1048576)(m:∀x∈l,x.size<=1048575):
 aW 91 #[.slice a (ln l) b] w λe w'=>(∃v,e=rt (.tuple #[v,.bool (fV l).isSome])/\∀d,fV l=some d->V7 w.heap.size w' v d)/\aG w w':=by
 refine(NT l a b w j k m).mono ?_;rintro e w' ⟨⟨d,c,v,rfl,i⟩|⟨c,v,rfl⟩,g⟩;·exact⟨⟨v,by rw[c];rfl,λf h=>by rw[c]at h;cases h;exact i⟩,g⟩
 ·exact⟨⟨v,by rw[c];rfl,λf h=>by rw[c]at h;cases h⟩,g⟩
theorem MI (h:jA (some d) s=some g)(h1:ln d<=a)(i:∀c∈d,ln c<=b):ln g<=a+1/\∀c∈g,ln c<=b+1:=by
 simp only[jA,Option.bind_some]at h;split at h
 ·cases h;refine⟨so,λc f=>?_⟩;rcases lma.1 f with f|f;·have:=i c f;omega
  ·rw[lms.1 f];simp
 ·split at h
  ·split at h
   ·cases h;refine⟨so,λc f=>?_⟩;rcases lma.1 f with f|f;·have:=i c ((List.dropLast_sublist _).subset f);omega
    ·rw[lms.1 f,lla]
     have:ln (d.getLastD [])<=b:=by
      cases e:d.getLast? with
      |none=>rw[List.getLastD_eq_getLast?,e];simp
      |some c0=>rw[List.getLastD_eq_getLast?,e];exact i c0 (List.mem_of_getLast? e)
     show(ln (d.getLastD []))+1<=_;omega
   ·cases h
  ·cases h
theorem AQ:∀(l:List Ba) (d f:List (List Cx)) (a b:Nat),l.foldl jA (some d)=some f->ln d<=a->(∀c∈d,ln c<=b)->ln f<=a+ln l/\∀c∈f,ln c<=b+ln l
 |[],d,f,a,b,h,h1,h2=>by cases h;exact⟨h1,h2⟩
 |s::r,d,f,a,b,h,h1,h2=>by
  rw[List.foldl_cons]at h;cases e:jA (some d) s with
  |none=>rw[e,MH]at h;cases h
  |some cs1=>
   rw[e]at h;obtain⟨g,i⟩:=MI e h1 h2;obtain⟨q1,k⟩:=AQ r cs1 f (a+1) (b+1) h g i;exact⟨so,λc j=>by have:=k c j;simp;omega⟩
theorem ws9 (h:8<ln w):∃n nm q c f a l b y e,w=n::nm::q::c::f::a::l::b::y::e:=by
 match w,h with
 |n::nm::q::c::f::a::l::b::y::e,_=>exact⟨n,nm,q,c,f,a,l,b,y,e,rfl⟩
theorem jN (m:Xs 1 eE v (some (Y f b)) u)(i:Nat)(p l r:List Ba)(c:u=p++(l++r))(q:ln p=i):Xs 1 eE v (some (Y f (b+i))) l:=by
 rcases m with h|⟨bb,oo,e,n⟩
 ·rw[h]at c
  have:l=[]:=by
   cases l with
   |nil=>rfl
   |cons a t=>simp at c
  exact .inl this
 ·cases e;refine .inr ⟨f,b+i,rfl,λk o=>?_⟩;have g:i+k<ln u:=by rw[c];simp;omega
  have:=n (i+k) g
  have e:u[i+k]=l[k]:=by
   subst c;subst q;rw[List.getElem_append_right om];simp only[Nat.add_sub_cancel_left];rw[List.getElem_append_left o]
  rw[e]at this;have j:b+(i+k)*1=b+i+k*1:=om;rw[j]at this;exact this
theorem iC (f:Xs 1 eE v (some (Y c a)) u)(i:Nat)(x:Ba)(hx:u[i]?=some x):v.cell? (Y c (a+i))=some (.string x):=by
 obtain⟨b,rfl⟩:=lgs.1 hx;rcases f with h|⟨bb,oo,e,g⟩;·rw[h]at b;simp at b
 ·cases e;have:=g i b 0 _ rfl;simpa using this
theorem BY (b:Bk)(x:Wx):0<=dF b x/\dF b x<=2000000:=by
 unfold dF jQ;split;·decide
 ·split;·decide
  ·split;·decide
   ·split<;>decide
theorem K2 (h:tH n x=m::r):0<=m.d/\m.d<=2000000/\0<=m.i/\m.i<=2000000/\0<=m.k/\m.k<=2000000:=by
 have e:=(XY h).1;unfold tH at h;split at h
 ·have a:m∈gV n x (x.l.toNat+1):=by rw[h];simp
  simp only[gV,mS,lM,List.mem_flatMap,lmm,List.mem_filter,lmr]at a;obtain⟨d,hd,i,hi,k,⟨hk,_⟩,rfl⟩:=a;simp only[eR,tR,n6,pK,jD,GJ,bat,dte]at e;obtain⟨_,_,_,h1,h2,h3⟩:=e;exact⟨sm,by simp only;omega,sm,by simp only;omega,sm,by simp only;omega⟩
 ·cases h
theorem RW (b:Bk)(x:Wx):∃d i k,iA b (decide (0<=kK b.hl x.n)) x=gF d i k/\(dF b x=0->AA (tH b x)=⟨#[108,97,116,101,32]⟩++dH d++⟨#[32,119,97,121,32]⟩++dH i++⟨#[32,108,101,118,101,108,32]⟩++dH k/\0<=d/\d<=2000000/\0<=i/\i<=2000000/\0<=k/\k<=2000000):=by
 unfold iA dF;split
 ·rename_i a;cases hl:tH b x with
  |nil=>
   exfalso;unfold jQ at a;rw[hl]at a;split at a;·cases a
   ·split at a;·cases a
    ·split at a<;>cases a
  |cons c r=>
   exact⟨c.d,c.i,c.k,rfl,λ_=>⟨rfl,K2 hl⟩⟩
 ·rename_i a;exact⟨0,0,0,rfl,λh=>absurd h a⟩
theorem AW (h:wl.map Yx.l=t):rK (wL s q i j p l w t) ⟨s,aV q,aV i,aV j,aV p,aV l,y,wl,wc,e,aS w,lc⟩:=by
 subst h;exact⟨rfl,rfl,rfl,rfl,rfl,rfl,rfl,⟨by simp[wL],λk hk=>by simp[wL]⟩⟩
theorem iB (h:v.heap[a]?=some o):a<v.heap.size:=(cE h)
variable {a:List Ba}{d o e:Nat}{w:Wd}{s:St}{b:Bk}{x:Ba}
theorem pC (b:Bk)(nm:Ba):0<=cG b nm/\cG b nm<=2000000:=by
 unfold cG;split;·decide
 ·split;·split<;>decide
  ·decide
theorem CD (b:Bk)(nm:Ba)(a:List Bx):0<=dX b nm a/\dX b nm a<=2000000:=by
 unfold dX j8;split;·decide
 ·split
  ·split
   ·split;·split<;>decide
    ·decide
   ·decide
  ·decide
theorem AK (b:Bk)(n:Int):0<=cX b n/\cX b n<=2000000:=by
 unfold cX;split<;>decide
theorem BR {s:St}(h:¬(ln a)=1):rW s a=(s,dR):=by
 unfold rW;split;·simp at h
 ·rfl
theorem xV {took:Bool}{s:St}(h:¬(ln a)=1):n9 took s a=(s,dR):=by
 unfold n9;split;·simp at h
 ·rfl
theorem ET {s:St}(h:¬(ln a=1/\j7 a=true)):mZ s a=(s,dR):=by
 unfold mZ;split
 ·rename_i x;split
  ·rename_i hx;exact absurd ⟨rfl,by simp[j7,hx]⟩ h
  ·rfl
 ·rfl
theorem o9.ne (h:o9 D w s b ta d)(a:w.cell? (Y c o)=some (.string x)):c≠D:=λe=>by
 subst e;simp only[World.cell?,h.o]at a;match o,a with
 |0,a=>simp at a
 |1,a=>simp at a
 |2,a=>simp at a
 |3,a=>simp at a
 |n+4,a=>simp at a
theorem o9.hand (h:o9 D w s b ta e){t':List Bx}{ta':Oa}{tc':Nat}(d:∀w',aU (λk=>k=D) w w'->jG w' ta' t'):o9 D (w.setCell (Y D 3) (.slice ta' (ln t') tc')) ⟨s.b,t'⟩ b ta' tc':=by
 have a:aU (λk=>k=D) w (w.setCell (Y D 3) (.slice ta' (ln t') tc')):=(aU.refl (λk=>k=D) w).set (g:=D) rfl _ _;exact⟨aP h.o 3 _,h.b.but a,λf c=>d f (a.trans c)⟩
variable {c:Int}{s:Ba}{w:Wx}{k:Nat}{n:St}
abbrev FS:ByteArray:=⟨#[116,111,111,32,108,111,110,103,10]⟩
def fP (text:ByteArray):List ByteArray:=if((bG 10 text).getLastD ⟨#[]⟩).toList=[]then(bG 10 text).dropLast else bG 10 text
noncomputable def IR (p:St×ByteArray)(ln:ByteArray):St×ByteArray:=((aX p.1 (bG 32 ln)).1,p.2++(aX p.1 (bG 32 ln)).2++sLf)
def st0:St:=⟨⟨0,none,[],0,none,[],0⟩,[]⟩
noncomputable def oR (l:List ByteArray):St×ByteArray:=l.foldl IR (st0,⟨#[]⟩)
noncomputable def BX (text:ByteArray):ByteArray:=if 20000<text.size then FS else if 300<(fP text).length then FS else(oR (fP text)).2
theorem sO (c:Int)(s:Ba):∀(m f i:Nat),s.size-i=m->fM c s f i≠[]/\∀x∈fM c s f i,x.size<=s.size
 |m,f,i,h=>by
  have g:∀a b,(s.extract a b).size<=s.size:=λa b=>by rw[ByteArray.size_extract];omega
  by_cases d:i<s.size
  ·by_cases e:(s[i].toNat:Int)=c
   ·rw[lZ d e];have:=sO c s (s.size-(i+1)) (i+1) (i+1) rfl;refine⟨sm,λx hx=>?_⟩;rcases lmc.1 hx with rfl|hx;·exact g _ _
    ·exact this.2 x hx
   ·rw[kQ d e];exact sO c s (s.size-(i+1)) f (i+1) rfl
  ·rw[lP d];refine⟨sm,λx hx=>?_⟩;rw[lms.1 hx];exact g _ _
 termination_by m => m
theorem zX (c:Int)(s:Ba):bG c s≠[]:=(sO c s _ 0 0 rfl).1
theorem pA (h:x∈bG c s):x.size<=s.size:=(sO c s _ 0 0 rfl).2 x h
theorem JM:(AA (tH b w)).size<=2000000000:=by
 cases h:tH b w with
 |nil=>show(ByteArray.mk #[]).size<=_;decide
 |cons c r=>
  obtain⟨_,f,_,g,_,i⟩:=K2 h;have:=bD f;have:=bD g;have:=bD i;have a:(⟨#[108,97,116,101,32]⟩:Ba).size=5:=rfl;have d:(⟨#[32,119,97,121,32]⟩:Ba).size=5:=rfl;have e:(⟨#[32,108,101,118,101,108,32]⟩:Ba).size=7:=rfl;simp only[AA,bsz,a,d,e];omega
theorem o8 (h:c<=2000000):(jC c).size<=2000000000:=by have:=PF h;omega
theorem fL:dR.size<=2000000000:=dz
theorem EU (c:aO b=true):(rC b).size<=2000000000:=by
 have a:=vN c
 have d:=DG b.hl (λx hx=>by
  obtain⟨_,d,e,f,g,h⟩:=a x hx;exact⟨lS d (pB g),lS e (pB h),f⟩) (dH b.now)
 have e:=kD c
 have f:b.now<=10000:=by
  have:=(dQ.1 c).1;rw[oL,dte]at this;exact this.2
 have g:=bD (n:=b.now) om;unfold rC;omega
theorem NY (b:Bk)(nm:Ba)(t:List Bx)(a:Int):(nO b nm t a).size<=2000000000:=by
 have i:((oX b nm t a).foldl nB ⟨#[]⟩).size<=301*4000004:=by
  rcases V2 b nm t a with h|h
  ·have:=xY _ (λp f=>⟨(zO h p f).2.1,(zO h p f).2.2.2⟩) ⟨#[]⟩;have e:(ByteArray.mk #[]).size=0:=rfl;have:=h.len;omega
  ·rw[h];show(ByteArray.mk #[]).size<=_;decide
 unfold nO;obtain⟨o,j⟩:=bQ ((oX b nm t a).foldl nB ⟨#[]⟩);rw[←j]at i ⊢;have c:(⟨#[110,101,118,101,114]⟩:Ba).size=5:=rfl;have g:(⟨#[102,114,101,101,32]⟩:Ba).size=5:=rfl;rcases Y7 b nm t a with h|h
 ·cases he:qO b nm t a with
  |none=>simp only[RH,bsz,c];omega
  |some d=>
   rw[he]at h;have:=bD (IA h).2;simp only[RH,bsz,g];omega
 ·rw[h];simp only[RH,bsz,c];omega
theorem yB (h:jF k n)(d:List Ba):(aX n d).2.size<=2000000000:=by
 have a:VW.size<=2000000000:=dz;have c:sNo.size<=2000000000:=dz;unfold aX;split;·exact fL
 ·split
  ·unfold gH;split
   ·split
    ·split;·exact a
     ·exact c
    ·exact fL
   ·exact fL
  ·split
   ·unfold k8;split
    ·split
     ·split
      ·unfold oI;show(if _ then _ else _:Ba).size<=_;split;·exact JM
       ·exact o8 (BY _ _).2
      ·exact fL
     ·exact fL
    ·exact fL
   ·split
    ·unfold vB;split
     ·split;·exact a
      ·exact fL
     ·exact fL
    ·split
     ·unfold rW;split;·exact o8 (CD _ _ _).2
      ·exact fL
     ·split
      ·unfold n9;split;·exact o8 (pC _ _).2
       ·exact fL
      ·split
       ·unfold n9;split;·exact o8 (pC _ _).2
        ·exact fL
       ·split
        ·unfold mZ;split
         ·split;·exact o8 (AK _ _).2
          ·exact fL
         ·exact fL
        ·split
         ·unfold yK;split;·exact EU h.b
          ·exact fL
         ·split
          ·unfold oC;split
           ·split;·exact NY _ _ _ _
            ·exact fL
           ·exact fL
          ·exact fL
theorem xC (l:List Ba)(k:Nat)(h:k<ln l):oR (l.take (k+1))=IR (oR (l.take k)) l[k]:=by
 rw[oR,oR,tsa h,List.foldl_append];rfl
theorem st0_ok:jF 0 st0:=⟨dz,nlq _⟩
theorem IW (l:List Ba):∀k,k<=ln l->jF k (oR (l.take k)).1/\(oR (l.take k)).2.size<=k*2000000001
 |0,_=>⟨st0_ok,by show(ByteArray.mk #[]).size<=_;decide⟩
 |k+1,h=>by
  obtain⟨a,h2⟩:=IW l k om;rw[xC l k om];refine⟨aAI a _,?_⟩;have h3:=yB a (bG 32 l[k]);have e:sLf.size=1:=rfl;show((oR (l.take k)).2++(aX (oR (l.take k)).1 (bG 32 l[k])).2++sLf).size<=_;simp only[bsz,e];omega
variable {g b Z n sz m:Nat}{c d f v:Va}{y:Bx}{t:List Bx}{w:Wd}{xs:List Va}{j:Oa}
def KG (D:Nat)(tv vn:Value)(g oo:Nat)(y:Bx)(t:List Bx)(Z:Nat)(j:Nat)(vs:Nat->Value)(w:World):Prop:=
 match j with
 |0=>vs 0=(E D 0)
 |1=>vs 1=(E D 0)
 |2=>vs 2=(E D 0)
 |3=>vs 3=(E D 3)
 |4=>vs 4=tv
 |6=>vs 6=vn
 |7=>vs 7=(E g oo)
 |8=>vs 8=I y.x
 |9=>vs 9=vn
 |10=>vs 10=(E g (oo+1))
 |11=>vs 11=I y.y
 |12=>vs 12=vn
 |13=>vs 13=(E g (oo+2))
 |14=>vs 14=I y.lo
 |15=>vs 15=vn
 |16=>vs 16=(E g (oo+3))
 |17=>vs 17=I y.hi
 |18=>vs 18=vn
 |19=>vs 19=(E g (oo+4))
 |20=>vs 20=I y.i
 |21=>vs 21=vn
 |22=>vs 22=(E g (oo+5))
 |23=>vs 23=I y.o
 |24=>vs 24=.agg #[I y.x,I y.y,I y.lo,I y.hi,I y.i,I y.o]
 |5=>w.ownsRow Z 91 6 (vs 5) t.length (fG t)
 |25=>∃p,vs 25=.slice (some (Y p 0)) 1 1/\w.heap[p]?=some (.cells #[I y.x,I y.y,I y.lo,I y.hi,I y.i,I y.o] 91)
 |_=>True
theorem KG.zL (j:Nat)(e:Nat->Va)(w w':Wd)(h:KG D c d g b y t Z j e w)(a:aG w w'):KG D c d g b y t Z j e w':=by
 unfold KG at*;split at h
 all_goals first
  |exact h
  |exact dC h a
  |(obtain⟨p,f,i⟩:=h;exact⟨p,f,bJ i a⟩)
def dpB7 (j:Nat):List Nat:=[j]
def YT (j:Nat):Bool:=j==0
theorem KG.loc (j:Nat)(b a:Nat->Va)(w:Wd)(i:∀q∈dpB7 j,b q=a q)(h:KG D d f g n y t Z j b w):KG D d f g n y t Z j a w:=by
 have e:b j=a j:=i j (by simp[dpB7]);unfold KG at*;split at h
 all_goals first
  |(rw[←e];exact h)
  |trivial
def PfB7 (D:Nat)(_:Nat)(v:Value):Prop:=v=(E D 0)
theorem KG.free (j:Nat)(b:Nat->Va)(w:Wd)(a:YT j=true)(h:KG D d f g n y t Z j b w):PfB7 D j (b j):=by
 simp[YT]at a;subst a;exact h
structure GB7 (W:World)(D:Nat)(y:Bx)(t:List Bx)(k:Nat)(vs:Nat->Value)(w':World):Prop where
 a:k=26->aG W w'/\w'.ownsRow W.heap.size 91 6 (vs 5) t.length (fG t)/\∃p,vs 25=.slice (some ⟨p,0,none⟩) 1 1/\w'.heap[p]?=some (.cells #[.int .i64 y.x,.int .i64 y.y,.int .i64 y.lo,.int .i64 y.hi,.int .i64 y.i,.int .i64 y.o] 91)
 b:27<=k->aG W w'/\w'.ownsRow W.heap.size 91 6 (vs 26) (t.length+1) (fG t++aR y)
 c:28<=k->vs 27=.pointer (some ⟨D,0,none⟩)
 d:29<=k->vs 28=.pointer (some ⟨D,3,none⟩)
theorem U6 (h:w.ownsRow D n sz v m xs)(hb:Z<=D):w.ownsRow Z n sz v m xs:=by
 obtain⟨c,h|⟨g,a,b,d,h2,f⟩⟩:=h;·exact⟨c,.inl h⟩
 ·exact⟨c,.inr ⟨g,a,b,d,om,f⟩⟩
theorem CJ {s:St}(h:¬(ln a=6/\j7 a=true)):vB s a=(s,dR):=by
 unfold vB;split
 ·split
  ·rename_i hx;exact absurd ⟨rfl,hx⟩ h
  ·rfl
 ·rfl
theorem ws6 (h:ln a=6):∃b c d e f g,a=[b,c,d,e,f,g]:=by
 match a,h with
 |[b,c,d,e,f,g],_=>exact⟨b,c,d,e,f,g,rfl⟩
theorem VS {S:Nat->Prop}{l:List Bx}(g:n=ln l)(h:w.ownsRow D 91 6 (.slice j n Z) n (fG l))(d:∀k,S k->k<D):∀w',aU S w w'->jG w' j l:=λw' e=>by
 subst g;have b:w'.ownsRow D 91 6 (.slice j (ln l) Z) (ln l) (fG l):=jI h (λk cs hz f=>e.block k (iB f) (λi=>by have:=d k i;omega));exact(aN.of_owns b).xs
theorem lineBox (D:Nat) (w:World) (s:St) (b:Bk) (ta:Option Addr) (tc kk:Nat) (O:o9 D w s b ta tc) (zs:jF kk s) (hkk:kk<=1000) (n:ByteArray) (a:List ByteArray) (bl L C:Nat) (hX:Xs 1 eE w (some (Y bl L)) (n::a)) (hcap:a.length+1<=C) (hlen:a.length+1<=1048570) (_hsz:∀x∈n::a,x.size<=1048575) (hn:n.toList=JD):
 aW 23 #[E D 0,.slice (some (Y bl L)) (a.length+1) C] w λe w'=>RO D w (aX s (n::a)) e w':=by
 obtain⟨ib,zr,zm,H,zn⟩:=info_parts Tryz.info91;have c0:=iC hX 0 n rfl;rw[naz]at c0;have ze:Xs 1 eE w (some (Y bl (L+1))) a:=jN hX 1 [n] _ [] sm rfl;go_enter Tryz.func23,Tryz.ntmps23;go_upto_region 1 with fail;go_cut [5,6] (λv5 v6 wx=>v6=.bool (j7 a)/\Hid (j7 a=true->∃a' c',v5=.slice a' (aS a).length c'/\Xs 1 dV wx a' (aS a))/\aG w wx)
 case first=>
  by_cases zq:C=1
  ·have ha:a=[]:=enl om;subst ha;subst zq;go_wp2_with fail;refine(cC [] (some (Y bl L)) 0 w (.inl rfl) sm).mono ?_;rintro e w1 ⟨⟨v1,rfl,K⟩,H⟩;have V:=aI K;clear K;go_wp2;go_meet;exact⟨rfl,V,H⟩
  ·have hc2:1<C:=om;go_wp2_with fail;refine(cC a (some (Y bl (L+1))) (C-1) w ze om).mono ?_;rintro e w1 ⟨⟨v1,rfl,K⟩,H⟩;have V:=aI K;clear K;go_wp2;go_meet;exact⟨rfl,V,H⟩
 case rest=>
  obtain⟨rfl,HV,hN⟩:=hcut;replace hX:=hX.zL hN;replace c0:=(hN.cell (aA c0)).trans c0;replace O:=O.zL hN;have HN:=aI hN;clear ze hN;have ht1:s.t.length<=1000:=by have:=zs.t;omega
  by_cases P:a.length=6/\j7 a=true
  ·obtain⟨P,f⟩:=P;obtain⟨x0,x1,x2,x3,x4,x5,rfl⟩:=ws6 P;obtain⟨a6,c6,rfl,zt⟩:=HV.oQ f;rcases zt with h|⟨g,B,rfl,A⟩;·simp[aS]at h
   have zb:Hid (aX s [n,x0,x1,x2,x3,x4,x5]=(⟨s.b,s.t++[⟨aV x0,aV x1,aV x2,aV x3,aV x4,aV x5⟩]⟩,VW)):=by
    rw[Hid,aX,hn];show vB s [x0,x1,x2,x3,x4,x5]=_;rw[vB,if_pos f]
   have j0:wc.cell? (Y g B)=some (I (aV x0)):=by have:=A 0 (by simp[aS]) 0 _ rfl;simpa[aS]using this
   have j1:wc.cell? (Y g (B+1))=some (I (aV x1)):=by have:=A 1 (by simp[aS]) 0 _ rfl;simpa[aS]using this
   have j2:wc.cell? (Y g (B+2))=some (I (aV x2)):=by have:=A 2 (by simp[aS]) 0 _ rfl;simpa[aS]using this
   have j3:wc.cell? (Y g (B+3))=some (I (aV x3)):=by have:=A 3 (by simp[aS]) 0 _ rfl;simpa[aS]using this
   have j4:wc.cell? (Y g (B+4))=some (I (aV x4)):=by have:=A 4 (by simp[aS]) 0 _ rfl;simpa[aS]using this
   have j5:wc.cell? (Y g (B+5))=some (I (aV x5)):=by have:=A 5 (by simp[aS]) 0 _ rfl;simpa[aS]using this
   have e5:(aS [x0,x1,x2,x3,x4,x5]).length=6:=rfl;rw[e5,f];obtain⟨y,R⟩:=bQ (⟨aV x0,aV x1,aV x2,aV x3,aV x4,aV x5⟩:Bx);have U:Hid (aX s [n,x0,x1,x2,x3,x4,x5]=(⟨s.b,s.t++[y]⟩,VW)):=by rw[R];exact zb.oQ
   replace j0:wc.cell? (Y g B)=some (I y.x):=by rw[R];exact j0
   replace j1:wc.cell? (Y g (B+1))=some (I y.y):=by rw[R];exact j1
   replace j2:wc.cell? (Y g (B+2))=some (I y.lo):=by rw[R];exact j2
   replace j3:wc.cell? (Y g (B+3))=some (I y.hi):=by rw[R];exact j3
   replace j4:wc.cell? (Y g (B+4))=some (I y.i):=by rw[R];exact j4
   replace j5:wc.cell? (Y g (B+5))=some (I y.o):=by rw[R];exact j5
   clear R zb e5 A f P HV hX;go_upto_region 7 with fail;refine ZC 6 26 29 [some 53,some 54,some 55,some 56,some 57,some 58,some 59,some 60,some 61,some 62,some 63,some 64,some 65,some 66,some 67,some 68,some 69,some 70,some 71,some 72,some 73,some 74,some 75,some 76,some 77,some 78,some 79,some 80,some 81] YT dpB7 (KG D (.slice ta s.t.length tc) (.slice (some (Y g B)) 6 c6) g B y s.t wc.heap.size) (PfB7 D) (GB7 wc D y s.t) KG.zL KG.loc KG.free ?step ?free ?g0 ?gf ?store ?fin
   case step=>
    intro ii o G w' zg f m z;obtain⟨z0z,z1z,z2z,z3z⟩:=(O.zL m).c;have y0y:=(m.cell (aA j0)).trans j0;have y1y:=(m.cell (aA j1)).trans j1;have y2y:=(m.cell (aA j2)).trans j2;have y3y:=(m.cell (aA j3)).trans j3;have y4y:=(m.cell (aA j4)).trans j4;have y5y:=(m.cell (aA j5)).trans j5;match ii,zg with
    |2,_|3,_|4,_|7,_|8,_|10,_|11,_|13,_|14,_|16,_|17,_|19,_|20,_|22,_|23,_|24,_=>
     simp at f;subst f;simp[Region.binds,KG]at z;simp only[aD,Act.put,z];gi_wp2;exact⟨_,by simp[aH,z],rfl,br _ _⟩
    |0,_|1,_|6,_|9,_|12,_|15,_|18,_|21,_=>
     simp at f;subst f;simp only[aD,Act.put];gi_wp2;exact⟨_,by simp[aH],rfl,br _ _⟩
    |5,_=>
     simp at f;subst f;simp[Region.binds,KG]at z;simp only[aD,Act.put,z];gi_wp2_with fail;refine⟨trivial,rfl,?_⟩;refine(cw.2 (uN s.t ta tc w' (O.zL m).tb om)).mono ?_;rintro e w5 ⟨⟨v5,rfl,F⟩,zp⟩;have HO:=aI (U6 F m.size);clear F;gi_wp2;exact⟨_,by simp[aH,z],HO.oQ,zp⟩
    |25,_=>
     simp at f;subst f;simp[Region.binds,KG]at z;simp only[aD,Act.put,z];gi_wp2;exact⟨_,by simp[aH,z],⟨_,rfl,wnq w' _⟩,aC (br _ _) _⟩
    |q+26,h=>omega
   case free=>
    intro i o G w' t zg Z f ht htM r z;have za:i=0:=by simpa[YT]using Z
    subst za;clear r z;simp at f;subst f;simp only[aD,Act.put];gi_wp2;exact⟨(E D 0),by simp[aH],rfl,trivial⟩
   case g0=>
    intro G w' m hp;exact⟨λ_=>⟨m,hp 5 dz rfl,hp 25 dz rfl⟩,λh=>absurd h dz,λh=>absurd h dz,λh=>absurd h dz⟩
   case gf=>
    intro t G w' i v Z r;have za:i=0:=by simpa[YT]using Z
    subst za;exact⟨r.a,r.b,r.c,r.d⟩
   case store=>
    intro t o G w' h12 h15 f r z;have ht:t=26∨t=27∨t=28:=om;rcases ht with rfl|rfl|rfl
    ·simp at f;subst f;obtain⟨m,F,p,zc,hp⟩:=r.a rfl;obtain⟨u5,e5⟩:∃u,G 5=u:=⟨_,rfl⟩;rw[e5]at F
     have J:∀j u,(aR y)[j]?=some u->w'.cell? (((Y p 0):Addr).add j)=some u:=λj u h=>by
      rw[aal,nza];match j,h with
      |0,h|1,h|2,h|3,h|4,h|5,h=>simp[aR]at h;subst h;exact aB hp rfl
     clear r z;simp only[aD,Act.put,sit,lcs,lcz];rw[e5,zc];refine wpListIn_append_own w' rfl (.tmp 58) (.tmp 78) 41 rfl wc.heap.size 91 ib _ 6 48 Tryz.underlying41 zr zm H zn rfl dz u5 s.t.length (fG s.t) rfl F (Y p 0) 1 1 (aR y) rfl rfl J (m9 y) (by unfold maxLen;omega) om m.size (λv1 w1 Q zf _=>?_);have zj:Hid (aG wc w1):=m.grown zf m.size (λq hq=>eH F hq);have zk:=aI Q;clear Q zf J F hp m;gi_wp2;exact⟨v1,by simp[aH,e5,zc,Act.put],λh=>absurd h dz,λ_=>⟨zj.oQ,zk.oQ⟩,λh=>absurd h dz,λh=>absurd h dz⟩
    ·simp at f;subst f;have d0:G 0=(E D 0):=z (eD 0) sm rfl dz rfl;have T:Hid (aG wc w'/\w'.ownsRow wc.heap.size 91 6 (G 26) (s.t.length+1) (fG s.t++aR y)):=r.b dz;clear r z;simp only[aD,Act.put,d0];gi_wp2;exact⟨_,by simp[aH,d0],λh=>absurd h dz,λ_=>T.oQ,λ_=>rfl,λh=>absurd h dz⟩
    ·simp at f;subst f;have W:=r.c dz;have T:Hid (aG wc w'/\w'.ownsRow wc.heap.size 91 6 (G 26) (s.t.length+1) (fG s.t++aR y)):=r.b dz;clear r z;simp only[aD,Act.put,W];gi_wp2;exact⟨_,by simp[aH,W],λh=>absurd h dz,λ_=>T.oQ,λ_=>W,λ_=>rfl⟩
   case fin=>
    intro G w' r hp;have zd:=r.d dz;obtain⟨m,F⟩:=r.b dz
    obtain⟨ta',tc',X⟩:∃a c,G 26=.slice a (s.t.length+1) c:=by
     obtain⟨_,⟨_,e⟩|⟨g,C,_,e,_⟩⟩:=F;·omega
     ·exact⟨_,_,e⟩
    rw[X,←jV]at F;have M:=O.zL m;have zh:=VS (S:=λk=>k=D) (l:=s.t++[y]) sm F (λk e=>by rw[e];exact iB O.o)
    have zl:Hid (o9 D (w'.setCell (Y D 3) (.slice ta' (s.t.length+1) tc')) ⟨s.b,s.t++[y]⟩ b ta' tc'):=by
     have:=M.hand (t':=s.t++[y]) (ta':=ta') (tc':=tc') zh;rw[lla]at this;exact this
    have zi:Hid (aU (λk=>k=D) w (w'.setCell (Y D 3) (.slice ta' (s.t.length+1) tc'))):=aU.set (S:=λk=>k=D) ((aU.below HN.oQ).trans (aU.below m)) (g:=D) rfl _ _;obtain⟨y0,y1,y2,y3⟩:=M.c;have yf:=M.fz;clear hp r m F M zh;simp only[lds,ldz,aD,Act.put];rw[zd,X];clear zd X;generalize G=G;gi_wp2_with fail;go_wp2;go_ret;exact⟨⟨_,_,_,by rw[U.oQ];exact zl.oQ⟩,by rw[U.oQ];rfl,zi.oQ⟩
  ·have U:Hid (aX s (n::a)=(s,dR)):=by rw[Hid,←CJ (s:=s) P,aX,hn];rfl
   by_cases N:a.length=6
   ·have f:j7 a=false:=by
     cases e:j7 a with
     |false=>rfl
     |true=>exact absurd ⟨N,e⟩ P
    rw[f,N];clear P N HV;go_wp2;go_ret;exact⟨⟨_,_,_,by rw[U.oQ];exact O⟩,by rw[U.oQ];rfl,aU.below HN.oQ⟩
   ·have hl':((a.length:Int)+1==7)=false:=by rw[bfn];omega
    clear P N;go_wp2;go_ret;exact⟨⟨_,_,_,by rw[U.oQ];exact O⟩,by rw[U.oQ];rfl,aU.below HN.oQ⟩
variable {l f a:Nat}{b q p:Bk}{x:Wx}{t r:Va}{d i k c:Int}
def NE (D:Nat)(b:Bk)(x:Wx)(vw vn:Value)(bl off g o:Nat)(s':Bk)(d i k c:Int)(Z:Nat)(j:Nat)(vs:Nat->Value)(w:World):Prop:=
 match j with
 |0=>vs 0=(E D 0)
 |1=>vs 1=(E D 0)
 |2=>vs 2=(E D 0)
 |3=>vs 3=b.val
 |4=>vs 4=vw
 |5=>vs 5=(E bl (off+1))
 |6=>vs 6=.string x.n
 |7=>vs 7=vn
 |8=>vs 8=(E g o)
 |9=>vs 9=I x.q
 |10=>vs 10=vn
 |11=>vs 11=(E g (o+1))
 |12=>vs 12=I x.s
 |13=>vs 13=vn
 |14=>vs 14=(E g (o+2))
 |15=>vs 15=I x.f
 |16=>vs 16=vn
 |17=>vs 17=(E g (o+3))
 |18=>vs 18=I x.b
 |19=>vs 19=vn
 |20=>vs 20=(E g (o+4))
 |21=>vs 21=I x.l
 |22=>vs 22=.slice x.wa x.wl.length x.wc
 |23=>vs 23=.slice x.la x.ll.length x.lc
 |24=>vs 24=x.val
 |25=>∃b':Bk,vs 25=.tuple #[b'.val,gF d i k,I c]/\K8 s'.now s'.fl s'.hl b'/\dS Z w b'
 |26=>∃b':Bk,vs 26=.tuple #[b'.val,gF d i k,I c]/\K8 s'.now s'.fl s'.hl b'/\dS Z w b'
 |27=>∃b':Bk,vs 26=.tuple #[b'.val,gF d i k,I c]/\vs 27=b'.val/\K8 s'.now s'.fl s'.hl b'/\dS Z w b'
 |28=>vs 28=gF d i k
 |29=>vs 29=I c
 |30=>∃p,vs 30=(E p 0)/\Z<=p/\w.heap[p]?=some (zo)
 |31=>∃p,vs 31=(E p 0)/\Z<=p/\w.heap[p]?=some (.cells #[I 0,I 0,I 0] 79)
 |_=>True
theorem NE.zL (j:Nat)(s:Nat->Va)(w w':Wd)(h:NE D b x t r n l g o q d i k c Z j s w)(m:aG w w'):NE D b x t r n l g o q d i k c Z j s w':=by
 unfold NE at*;split at h
 all_goals first
  |exact h
  |(obtain⟨b',a,e,f⟩:=h;exact⟨b',a,e,f.zL m⟩)
  |(obtain⟨b',a,e,f,u⟩:=h;exact⟨b',a,e,f,u.zL m⟩)
  |(obtain⟨p,a,e,f⟩:=h;exact⟨p,a,e,bJ f m⟩)
def ZQ (j:Nat):List Nat:=if j=27 then[27,26]else[j]
def YR (j:Nat):Bool:=j==28||j==29
theorem NE.loc (j:Nat)(l a:Nat->Va)(w:Wd)(n:∀q∈ZQ j,l q=a q)(h:NE D b x t r m f g o p d i k c Z j l w):NE D b x t r m f g o p d i k c Z j a w:=by
 have e:l j=a j:=n j (by unfold ZQ;split<;>simp_all);unfold NE at*;split at h
 all_goals first
  |(rw[←e];exact h)
  |(rw[←e,←n 26 (by simp[ZQ])];exact h)
  |trivial
def PfW6 (d i k c:Int)(j:Nat)(v:Value):Prop:=if j=28 then v=gF d i k else v=I c
theorem NE.free (j:Nat)(f:Nat->Va)(w:Wd)(e:YR j=true)(h:NE D b x t r l a g o q d i k c Z j f w):PfW6 d i k c j (f j):=by
 simp[YR]at e;rcases e with rfl|rfl<;>exact h
structure GW6 (W:World)(s':Bk)(d i k c:Int)(t:Nat)(vs:Nat->Value)(w':World)(b':Bk)(p q:Nat):Prop where
 tt:vs 26=.tuple #[b'.val,gF d i k,.int .i64 c]
 v:vs 27=b'.val
 vp:vs 30=.pointer (some ⟨p,0,none⟩)
 vq:vs 31=.pointer (some ⟨q,0,none⟩)
 bel:aG W w'
 cnt:K8 s'.now s'.fl s'.hl b'
 sp:dS W.heap.size w' b'
 zp:W.heap.size<=p
 zq:W.heap.size<=q
 p0:t=32->w'.heap[p]?=some (.cells #[.int .i64 0,.slice none 0 0,.slice none 0 0] 32)
 p1:32<t->w'.heap[p]?=some b'.obj
 q0:t<=33->w'.heap[q]?=some (.cells #[.int .i64 0,.int .i64 0,.int .i64 0] 79)
 q1:33<t->w'.heap[q]?=some (jE d i k)
def GW6e (W:World)(s':Bk)(d i k c:Int)(t:Nat)(vs:Nat->Value)(w':World):Prop:=∃b' p q,GW6 W s' d i k c t vs w' b' p q
def EA (q:Nat)(d i k:Int)(s0 s1 s2 s3 s4 s5 s6 s7:ByteArray)(j:Nat)(v:Value)(_w:World):Prop:=
 match j with
 |0=>v=(E q 0)
 |1=>v=I d
 |2=>v=.string s0
 |3=>v=.string s1
 |4=>v=.string s2
 |5=>v=(E q 1)
 |6=>v=I i
 |7=>v=.string s3
 |8=>v=.string s4
 |9=>v=.string s5
 |10=>v=(E q 2)
 |11=>v=I k
 |12=>v=.string s6
 |13=>v=.string s7
 |_=>True
theorem UE (D:Nat)(w:Wd)(s:St)(b:Bk)(ta:Oa)(tc k:Nat)(hS:o9 D w s b ta tc)(ji:jF k s)(ws:List Ba)(bl O zv:Nat)(hX:Xs 1 eE w (some (Y bl O)) ws)(h9:8<ln ws)(qb:ln ws<=zv)(qd:ln ws<=1048570)(yn:∀x∈ws,x.size<=1048575):
 aW 48 #[E D 0,.slice (some (Y bl O)) (ln ws) zv] w λe w'=>RO D w (k8 s ws.tail) e w':=by
 obtain⟨n,nm,q,R,f,P,l,lv,y,ys,K⟩:=ws9 h9;have xy:Xs 1 eE w (some (Y bl (O+2))) [q,R,f,P,l]:=jN hX 2 [n,nm] _ (lv::y::ys) (by rw[K];rfl) rfl;have M:Xs 1 eE w (some (Y bl (O+8))) (y::ys):=jN hX 8 [n,nm,q,R,f,P,l,lv] _ [] (by rw[K];simp) rfl;have c1:=iC hX 1 nm (by rw[K];rfl);have c7:=iC hX 7 lv (by rw[K];rfl);have jf:lv.size<=1048575:=yn lv (by rw[K];simp);have jh:nm.size<=1048575:=yn nm (by rw[K];simp);have xm:∀x∈y::ys,x.size<=1048575:=λx hx=>yn x (by rw[K];exact List.mem_append_right [n,nm,q,R,f,P,l,lv] hx)
 have u:Hid (k8 s ws.tail=if j7 [q,R,f,P,l]&&j7 (bG 44 lv)then(match fV (y::ys)with|some cs=>oI s (wL nm q R f P l (bG 44 lv) cs)|none=>(s,dR))else(s,dR)):=by rw[K];rfl
 obtain⟨YY,xd⟩:=bQ (y::ys);have hm:ln ws=ln YY+8:=by rw[K,xd];simp
 rw[←xd]at M xm u;obtain⟨m,qe⟩:=bQ (ln ws);rw[←qe]at hm qb qd h9 ⊢;have jg:m-8=ln YY:=om
 clear K xd hX yn qe hm n y ys;have ym:ln (bG 44 lv)<=1048576:=by have:=kU 44 lv;omega
 go_enter Tryz.func48,Tryz.ntmps48
 go_wp2_with fail
 refine(cC [q,R,f,P,l] (some (Y bl (O+2))) (zv-2) w xy sm).mono ?_;rintro e w1 ⟨⟨v1,rfl,qj⟩,zd⟩;have yz:=aI qj;have xp:=aI zd
 replace c1:=ctq zd c1
 replace c7:=ctq zd c7
 replace M:=M.zL zd
 replace hS:=hS.zL zd
 clear qj zd xy;obtain⟨p1,N⟩:∃p,p=j7 [q,R,f,P,l]:=⟨_,rfl⟩;rw[←N]at yz u ⊢;clear N;go_wp2_with fail
 refine(sV lv 44 w1 om).mono ?_;rintro e w2 ⟨⟨v2,rfl,qf⟩,ze⟩;obtain⟨a2,c2,rfl,xl⟩:=sY qf;have xq:=aI (aE xp.oQ ze)
 replace c1:=ctq ze c1
 replace M:=M.zL ze
 replace hS:=hS.zL ze
 have yp:Hid (p1=true->∃L U,v1=.slice L (ln (aS [q,R,f,P,l])) U/\Xs 1 dV w2 L (aS [q,R,f,P,l])):=λh=>by obtain⟨L,U,e,hx⟩:=yz.oQ h;exact⟨L,U,e,hx.zL ze⟩
 clear qf ze xp yz c7;obtain⟨Q,hQ⟩:=bQ (bG 44 lv);rw[←hQ]at xl u ym ⊢;clear hQ;go_wp2_with fail
 refine(cC Q a2 c2 w2 xl ym).mono ?_;rintro e w3 ⟨⟨v3,rfl,zj⟩,zf⟩;have xa:=aI zj;have zx:=aI (aE xq.oQ zf)
 replace c1:=ctq zf c1
 replace M:=M.zL zf
 replace hS:=hS.zL zf
 have yq:Hid (p1=true->∃L U,v1=.slice L (ln (aS [q,R,f,P,l])) U/\Xs 1 dV w3 L (aS [q,R,f,P,l])):=λh=>by obtain⟨L,U,e,hx⟩:=yp.oQ h;exact⟨L,U,e,hx.zL zf⟩
 clear zj zf xq yp xl;obtain⟨p2,qg⟩:∃p,p=j7 Q:=⟨_,rfl⟩;rw[←qg]at xa u ⊢;clear qg;go_wp2_with fail
 refine(ZX YY (some (Y bl (O+8))) (zv-8) w3 M om xm).mono ?_;rintro e F ⟨⟨v4,rfl,zk⟩,zg⟩;have zy:=aI zk;have yw:=aI (aE zx.oQ zg)
 replace c1:=ctq zg c1
 have zc:o9 D F s b ta tc:=hS.zL zg;have zs:Hid (p1=true->∃L U,v1=.slice L (ln (aS [q,R,f,P,l])) U/\Xs 1 dV F L (aS [q,R,f,P,l])):=λh=>by obtain⟨L,U,e,hx⟩:=yq.oQ h;exact⟨L,U,e,hx.zL zg⟩
 have zt:Hid (p2=true->∃L U,v3=.slice L (ln (aS Q)) U/\Xs 1 dV F L (aS Q)):=λh=>by obtain⟨L,U,e,hx⟩:=xa.oQ h;exact⟨L,U,e,hx.zL zg⟩
 clear zk zg zx yq xa M hS;obtain⟨ow,xj⟩:=bQ (fV YY);rw[←xj]at zy u ⊢;have yx:=aI xj;clear xj
 by_cases W:p1=true/\p2=true/\∃cs,ow=some cs
 · obtain⟨rfl,rfl,cs,rfl⟩:=W
   obtain⟨a5,c5,rfl,jk⟩:=zs.oQ rfl;obtain⟨aL,cL,zj,ql⟩:=zt.oQ rfl;obtain⟨wa,wl,wc,zk,yo,qk,xk⟩:=(zy.oQ cs rfl).e
   rcases jk with h|⟨g,oo,rfl,zi⟩
   · simp[aS]at h
   have j0:F.cell? (Y g oo)=some (I (aV q)):=by have:=zi 0 (by simp[aS]) 0 _ rfl;simpa[aS]using this
   have j1:F.cell? (Y g (oo+1))=some (I (aV R)):=by have:=zi 1 (by simp[aS]) 0 _ rfl;simpa[aS]using this
   have j2:F.cell? (Y g (oo+2))=some (I (aV f)):=by have:=zi 2 (by simp[aS]) 0 _ rfl;simpa[aS]using this
   have j3:F.cell? (Y g (oo+3))=some (I (aV P)):=by have:=zi 3 (by simp[aS]) 0 _ rfl;simpa[aS]using this
   have j4:F.cell? (Y g (oo+4))=some (I (aV l)):=by have:=zi 4 (by simp[aS]) 0 _ rfl;simpa[aS]using this
   have e5:ln (aS [q,R,f,P,l])=5:=rfl;rw[e5];clear e5 zi;obtain⟨jj,qm⟩:=AQ YY [[]] cs 1 0 yx.oQ.symm sm sm;obtain⟨x,hx⟩:=bQ (⟨nm,aV q,aV R,aV f,aV P,aV l,wa,wl,wc,aL,aS Q,cL⟩:Wx);have xn:Hid (rK (wL nm q R f P l Q cs) x):=by rw[Hid,hx];exact AW yo
   have qq:Hid (iL F x):=by
    rw[Hid,hx];refine⟨⟨qk,λy m=>(xk y m).1,ql⟩,⟨?_,λy m=>?_,?_,?_⟩,λy m=>(xk y m).2⟩
    · show(ln wl)<=1048576
      have:ln wl=ln cs:=by rw[←yo,List.length_map]
      omega
    · have:=qm y.l (by rw[←yo];exact List.mem_map_of_mem m)
      omega
    · show(ln (aS Q))<=1048576
      rw[eN];exact ym
    · show nm.size<=_
      omega
   replace c1:F.cell? (Y bl (O+1))=some (.string x.n):=by rw[hx];exact c1
   replace j0:F.cell? (Y g oo)=some (I x.q):=by rw[hx];exact j0
   replace j1:F.cell? (Y g (oo+1))=some (I x.s):=by rw[hx];exact j1
   replace j2:F.cell? (Y g (oo+2))=some (I x.f):=by rw[hx];exact j2
   replace j3:F.cell? (Y g (oo+3))=some (I x.b):=by rw[hx];exact j3
   replace j4:F.cell? (Y g (oo+4))=some (I x.l):=by rw[hx];exact j4
   replace zj:v3=.slice x.la (ln x.ll) x.lc:=by rw[hx];exact zj
   replace zk:v4=.slice x.wa (ln x.wl) x.wc:=by rw[hx];exact zk
   subst zj;subst zk;obtain⟨X,hX⟩:=bQ (wL nm q R f P l Q cs);have T:Hid (k8 s ws.tail=oI s X):=by rw[Hid,u.oQ,hX];rfl
   rw[←hX]at xn;obtain⟨d,i,kk,xx,xv⟩:=RW s.b X;have qw:=aI xx;have qt:=aI xv;obtain⟨yt,yu⟩:=BY s.b X;obtain⟨cd,xf⟩:=bQ (dF s.b X);rw[←xf]at yt yu;have zw:=aI xf.symm;have zx:Hid (aG w F):=yw.oQ;clear xf xx xv hX hx jj qm yo qk xk ql u zs zt zy yx jg jh jf ym xm yw
   go_upto_region 6 with fail
   refine ZC 6 32 34 [some 45,some 46,some 47,some 48,some 49,some 50,some 51,some 52,some 53,some 54,some 55,some 56,some 57,some 58,some 59,some 60,some 61,some 62,some 63,some 64,some 65,some 66,some 67,some 68,some 69,some 70,some 44,some 71,some 72,some 73,some 11,some 12,none,none] YR ZQ (NE D b x (sl bl O m zv) (sl g oo 5 c5) bl O g oo (dN s.b s.b.now (eY s.b X)) d i kk cd F.heap.size) (PfW6 d i kk cd) (GW6e F (dN s.b s.b.now (eY s.b X)) d i kk cd) NE.zL NE.loc NE.free ?step ?free ?g0 ?gf ?store ?fin
   case step=>
    intro ii o Z w' yl C G j;obtain⟨jp,jr,js,z3z⟩:=(zc.zL G).c;have z4z:=ctq G c1;have z5z:=ctq G j0;have z6z:=ctq G j1;have z7z:=ctq G j2;have z8z:=ctq G j3;have z9z:=ctq G j4
    match ii,yl with
    |1,_|2,_|3,_|5,_|6,_|8,_|9,_|11,_|12,_|14,_|15,_|17,_|18,_|20,_|21,_|24,_=>
     cases C
     simp[Region.binds,NE]at j
     simp only[aD,Act.put,j];gi_wp2;exact⟨_,by simp[aH,j],rfl,br _ _⟩
    |0,_|4,_|7,_|10,_|13,_|16,_|19,_|22,_|23,_=>
     cases C
     gi_wp2;exact⟨_,uhx,rfl,br _ _⟩
    |25,_=>
     cases C
     simp[Region.binds,NE]at j
     simp only[aD,Act.put,j];gi_wp2_with fail
     refine tqx ?_;refine(cw.2 (UI (zc.zL G).b ji.b (qq.oQ.zL G) xn.oQ)).mono ?_;rintro e w5 ⟨⟨b',rfl,H,J⟩,V⟩;rw[qw.oQ,zw.oQ];have zm:=aI (H);have zr:=aI (J.weak G.size);clear H J;gi_wp2;exact⟨_,by simp[aH,j],⟨b',rfl,zm.oQ,zr.oQ⟩,V⟩
    |26,_=>
     cases C
     obtain⟨b',xr,H,J⟩:=Zq j 25;have zm:=aI (H);have zr:=aI (J);clear H J j;simp only[aD,Act.put,xr];gi_wp2;exact⟨_,by simp[aH,xr],⟨b',rfl,zm.oQ,zr.oQ⟩,br _ _⟩
    |27,_=>
     cases C
     obtain⟨b',B,H,J⟩:=Zq j 26;have zm:=aI (H);have zr:=aI (J);clear H J j;simp only[aD,Act.put,B];gi_wp2;exact⟨_,by simp[aH,B],⟨b',by simp[aH,B],rfl,zm.oQ,zr.oQ⟩,br _ _⟩
    |28,_|29,_=>
     cases C
     obtain⟨b',B,H,J⟩:=Zq j 26;clear H J j;simp only[aD,Act.put,B];gi_wp2;exact⟨_,by simp[aH,B],rfl,br _ _⟩
    |30,_|31,_=>
     cases C
     gi_wp2;exact⟨_,uhx,⟨_,rfl,G.size,wnq w' _⟩,aC (br _ _) _⟩
    |q+32,h=>omega
   case free=>
    intro ii o Z w' t yl xg C ht htM a j;obtain⟨b',p,q,a⟩:=a;have B:=a.tt
    have xh:ii=28∨ii=29:=by
     simp[YR]at xg;omega
    clear a j
    rcases xh with rfl|rfl
    · simp at C
      subst C;simp only[aD,Act.put,B];gi_wp2;exact⟨gF d i kk,by simp[aH,B],rfl,trivial⟩
    · simp at C
      subst C;simp only[aD,Act.put,B];gi_wp2;exact⟨I cd,by simp[aH,B],rfl,trivial⟩
   case g0=>
    intro Z w' G hp;obtain⟨b',qx,qy,h1,h2⟩:=hp 27 dz rfl;obtain⟨p,ep,zp,S⟩:=hp 30 dz rfl;obtain⟨q,eq,zq,z⟩:=hp 31 dz rfl;exact⟨b',p,q,qx,qy,ep,eq,G,h1,h2,zp,zq,λ_=>S,λh=>absurd h dz,λ_=>z,λh=>absurd h dz⟩
   case gf=>
    intro t Z w' ii v xg a;obtain⟨b',p,q,a⟩:=a
    have xh:ii=28∨ii=29:=by
     simp[YR]at xg;omega
    rcases xh with rfl|rfl<;>exact⟨b',p,q,a.tt,a.v,a.vp,a.vq,a.bel,a.cnt,a.sp,a.zp,a.zq,a.p0,a.p1,a.q0,a.q1⟩
   case store=>
    intro t o Z w' h12 h15 C a j;obtain⟨b',p,q,a⟩:=a;have ht:t=32∨t=33:=om
    rcases ht with rfl|rfl
    · simp at C
      subst C;have xb:=a.v;have za:=a.vp;have S:=a.p0 rfl;obtain⟨jl,jm,jn⟩:=aM S;have jo:=jS S;have k1:=aP S 0 (I b'.now);have k2:=aP k1 1 (fs b');have k3:=aP k2 2 (hs b');have z:=a.q0 dz;have xi:q≠p:=λe=>by rw[e,S]at z;cases z
      have HQ:=aI (bF z (dJ w' p b') xi);have HP:=aI k3;have yy:Hid (dS F.heap.size (gI w' p b') b'):=a.sp.butT (dJ w' p b') S dz dz dz;have yv:Hid (aG F (gI w' p b')):=(dJ w' p b').under a.bel (nlq _) (λk e=>by rw[e];exact a.zp);have A:Hid _:=a;clear a j S z k1 k2 k3;simp only[aD,Act.put,xb,za];gi_wp2;exact⟨undef,by simp[aH,xb,za],b',p,q,A.oQ.tt,xb,za,A.oQ.vq,yv.oQ,A.oQ.cnt,yy.oQ,A.oQ.zp,A.oQ.zq,λh=>absurd h dz,λ_=>HP.oQ,λ_=>HQ.oQ,λh=>absurd h dz⟩
    · simp at C
      subst C;have xs:Z 28=gF d i kk:=j (eD 28) sm rfl dz rfl;have zb:=a.vq;have z:=a.q0 dz;obtain⟨jl,jm,jn⟩:=aM z;have jo:=jS z;have k1:=aP z 0 (I d);have k2:=aP k1 1 (I i);have k3:=aP k2 2 (I kk);have yk:aU (λr=>r=q) w' (((w'.setCell (Y q 0) (I d)).setCell (Y q 1) (I i)).setCell (Y q 2) (I kk)):=(((aU.refl (λr=>r=q) w').set (g:=q) rfl _ _).set (g:=q) rfl _ _).set (g:=q) rfl _ _;have N:=a.p1 dz;have xi:p≠q:=λe=>by rw[←e,N]at z;simp[Bk.obj]at z
      have HP:=aI (bF N yk xi);have HQ:=aI k3;have yy:Hid (dS F.heap.size (((w'.setCell (Y q 0) (I d)).setCell (Y q 1) (I i)).setCell (Y q 2) (I kk)) b'):=a.sp.butT yk z dz dz dz;have yv:Hid (aG F (((w'.setCell (Y q 0) (I d)).setCell (Y q 1) (I i)).setCell (Y q 2) (I kk))):=yk.under a.bel (nlq _) (λk e=>by rw[e];exact a.zq);have A:Hid _:=a;clear a j N z k1 k2 k3 yk;simp only[aD,Act.put,xs,zb];gi_wp2;exact⟨undef,by simp[aH,xs,zb],b',p,q,A.oQ.tt,A.oQ.v,A.oQ.vp,zb,yv.oQ,A.oQ.cnt,yy.oQ,A.oQ.zp,A.oQ.zq,λh=>absurd h dz,λ_=>HP.oQ,λh=>absurd h dz,λ_=>HQ.oQ⟩
   case fin=>
    intro Z w' a hp;obtain⟨b',p,q,a⟩:=a;have xt:Z 29=I cd:=hp 29 dz rfl;have za:=a.vp;have zb:=a.vq;have yj:=zc.zL a.bel;have xz:eI (λk=>k=D) w' (dN s.b s.b.now (eY s.b X)) b':=a.sp.at (λk e=>by rw[e];exact iB zc.o) a.cnt;have zn:=aI (yj.put xz);have zl:=aI ((aU.below (aE zx.oQ a.bel)).trans (dJ w' D b'));obtain⟨y0,y1,y2,y3⟩:=yj.c;have yf:=yj.fz;have N:=a.p1 dz;have qh:=a.q1 dz;obtain⟨u0,u1,u2⟩:=aM N;have xw:q≠D:=λe=>by have:=a.zq;have:=iB zc.o;omega
    have qi:=bF qh (dJ w' D b') xw;obtain⟨v0,v1,v2⟩:=aM qi;clear hp a yj xz N qh xw qi;simp only[lds,ldz,aD,Act.put];rw[xt,za,zb];clear xt za zb;generalize Z=Z
    by_cases zh:cd=0
    · have qa:(cd !=0)=false:=by simp[zh]
      obtain⟨qc,qz,ja,jb,jc,jd,je⟩:=qt.oQ (by rw[zw.oQ];exact zh);obtain⟨s0,zz⟩:∃s,s=dH d:=⟨_,rfl⟩;obtain⟨s1,yb⟩:∃s,s=(⟨#[108,97,116,101,32]⟩:Ba)++s0:=⟨_,rfl⟩;obtain⟨s2,yc⟩:∃s,s=s1++(⟨#[32,119,97,121,32]⟩:Ba):=⟨_,rfl⟩;obtain⟨s3,yd⟩:∃s,s=dH i:=⟨_,rfl⟩;obtain⟨s4,ye⟩:∃s,s=s2++s3:=⟨_,rfl⟩;obtain⟨s5,yg⟩:∃s,s=s4++(⟨#[32,108,101,118,101,108,32]⟩:Ba):=⟨_,rfl⟩;obtain⟨s6,yh⟩:∃s,s=dH kk:=⟨_,rfl⟩;obtain⟨s7,yi⟩:∃s,s=s5++s6:=⟨_,rfl⟩;have jt:s0.size<=2000001:=by rw[zz];exact bD ja
      have ju:s1.size=5+s0.size:=by rw[yb,bsz];rfl
      have jv:s2.size=s1.size+5:=by rw[yc,bsz];rfl
      have jw:s3.size<=2000001:=by rw[yd];exact bD jc
      have jx:s4.size=s2.size+s3.size:=by rw[ye,bsz]
      have jy:s5.size=s4.size+7:=by rw[yg,bsz];rfl
      have jz:s6.size<=2000001:=by rw[yh];exact bD je
      have ka:s7.size=s5.size+s6.size:=by rw[yi,bsz]
      have gs1:¬9223372036854775807<5+s0.size:=om
      have gs2:¬9223372036854775807<s1.size+5:=om
      have gs4:¬9223372036854775807<s2.size+s3.size:=om
      have gs5:¬9223372036854775807<s4.size+7:=om
      have gs7:¬9223372036854775807<s5.size+s6.size:=om
      have zu:Hid (oI s X=(⟨dN s.b s.b.now (eY s.b X),s.t⟩,s7)):=by
       rw[Hid,oI,zw.oQ,if_pos zh,qc,←zz,←yb,←yc,←yd,←ye,←yg,←yh,←yi]
      have qn:=aI zz;have fs1:=yb.symm;have fs2:=yc.symm;have qo:=aI yd;have fs4:=ye.symm;have fs5:=yg.symm;have qp:=aI yh;have fs7:=yi.symm;clear qc zz jt yb ju yc jv yd jw ye jx yg jy yh jz yi ka;subst zh;gi_wp2_with fail
      go_upto_region 10 with fail
      obtain⟨W7,xc⟩:=cI (((w'.setCell (Y D 0) (I b'.now)).setCell (Y D 1) (fs b')).setCell (Y D 2) (hs b'));have yr:gI w' D b'=W7:=xc;rw[yr]at v0 v1 v2 zn zl;rw[xc];clear xc yr y0 y1 y2 y3 yf u0 u1 u2;refine pG 14 [some 82,some 83,some 84,some 85,some 86,some 87,some 88,some 89,some 90,some 91,some 92,some 93,some 94,some 95] (EA q d i kk s0 s1 s2 s3 s4 s5 s6 s7) (λ_ _ _ _ h _=>h) ?step ?fin
      case step=>
       intro ii o Z w' yl C G j;have jp:=ctq G v0;have jr:=ctq G v1;have js:=ctq G v2
       match ii,yl with
       |1,_|3,_|4,_|6,_|8,_|9,_|11,_|13,_=>
        cases C
        simp[Region.binds,EA]at j
        simp only[aD,Act.put,j];gi_wp2;exact⟨_,by simp[aH,j],rfl,br _ _⟩
       |0,_|5,_|10,_=>
        cases C
        gi_wp2;exact⟨_,uhx,rfl,br _ _⟩
       |2,_=>
        cases C
        simp[Region.binds,EA]at j
        simp only[aD,Act.put,j];gi_wp2_with fail
        refine tqx ?_;refine(cw.2 (mT d w' qz om)).mono ?_;rintro e w5 ⟨rfl,V⟩;rw[←qn.out];gi_wp2;exact⟨_,by simp[aH,j],rfl,V⟩
       |7,_=>
        cases C
        simp[Region.binds,EA]at j
        simp only[aD,Act.put,j];gi_wp2_with fail
        refine tqx ?_;refine(cw.2 (mT i w' jb om)).mono ?_;rintro e w5 ⟨rfl,V⟩;rw[←qo.out];gi_wp2;exact⟨_,by simp[aH,j],rfl,V⟩
       |12,_=>
        cases C
        simp[Region.binds,EA]at j
        simp only[aD,Act.put,j];gi_wp2_with fail
        refine tqx ?_;refine(cw.2 (mT kk w' jd om)).mono ?_;rintro e w5 ⟨rfl,V⟩;rw[←qp.out];gi_wp2;exact⟨_,by simp[aH,j],rfl,V⟩
       |q+14,h=>omega
      case fin=>
       intro Z w8 G hp;have xu:Z 13=.string s7:=hp 13 dz;have qu:Hid _:=zn.oQ.zL G;have qr:Hid _:=zl.oQ.trans (aU.below G);clear hp G zn zl;simp only[lds,ldz,aD,Act.put];rw[xu];clear xu;generalize Z=Z;gi_wp2_with fail
       go_wp2
       go_ret;exact⟨⟨_,_,_,by rw[T.oQ,zu.oQ];exact qu.oQ⟩,by rw[T.oQ,zu.oQ];rfl,qr.oQ⟩
    · have qa:(cd !=0)=true:=by simp[zh]
      have zu:Hid (oI s X=(⟨dN s.b s.b.now (eY s.b X),s.t⟩,jC cd)):=by rw[Hid,oI,zw.oQ,if_neg zh]
      gi_wp2_with fail
      go_wp2_with fail
      refine(CV cd _ yt yu).mono ?_;rintro e w9 ⟨rfl,xe⟩;have qv:Hid _:=zn.oQ.zL xe;have qs:Hid _:=zl.oQ.trans (aU.below xe);clear xe zn zl;go_wp2
      go_ret;exact⟨⟨_,_,_,by rw[T.oQ,zu.oQ];exact qv.oQ⟩,by rw[T.oQ,zu.oQ];rfl,qs.oQ⟩
 · have T:Hid (k8 s ws.tail=(s,dR)):=by
    rw[Hid,u.oQ]
    split
    · rename_i h
      rw[bat]at h
      split
      · exact absurd ⟨h.1,h.2,_,rfl⟩ W
      · rfl
    · rfl
   clear u zs zt zy yx
   cases p1<;>cases p2<;>cases ow
   all_goals first
    |exact absurd ⟨rfl,rfl,_,rfl⟩ W
    |(clear W;go_wp2;go_ret;exact⟨⟨_,_,_,by rw[T.oQ];exact zc⟩,by rw[T.oQ];rfl,aU.below yw.oQ⟩)
end Go.Proofs.YtoolgmmljacfmaaGreatDoor
namespace Go.Proofs.YtoolgmmljacfmaaGreatDoor
open Go.Shelf Go.BigFrame
attribute [local go_sem] Oper.semAt_some
variable {e z w' C F:Wd}{A k p:Nat}{l:List Fx}{y:Fx}{f g a o i m b c r s w t u d n B D:Va}{L:Nat → Prop}{v x W:Nat → Va}{nm:Ba}{j:List Ba}
def KFc (A k:Nat)(y:Fx)(h0 h4 h12 vw p7 vn p10 p13:Value):Nat->Option Value
 |1|18|23=>some (E A 1)
 |2|19=>some h0
 |3|20=>some (I (k:Int))
 |4=>some h4
 |6=>some vw
 |7=>some p7
 |8=>some (.string y.n)
 |9|12=>some vn
 |10=>some p10
 |11=>some (I y.x)
 |13=>some p13
 |14=>some (I y.y)
 |15=>some y.val
 |21=>some h12
 |_=>none
structure KF (Wd:World)(A k:Nat)(l:List Fx)(y:Fx)(h0 h4 h12 vw p7 vn p10 p13:Value)(L:Nat->Prop)(vs:Nat->Value)(w':World):Prop where
 c:∀j v,KFc A k y h0 h4 h12 vw p7 vn p10 p13 j=some v->L j->vs j=v
 v0:L 0->∃p,vs 0=.slice (some ⟨p,0,none⟩) 0 0/\Wd.heap.size<=p/\(¬L 5->w'.heap[p]?=some (.cells #[] 34))
 v5:L 5->¬L 17->w'.ownsRow Wd.heap.size 34 3 (vs 5) k (aJ Fx.cells (l.take k))
 v7:L 16->∃V,vs 16=.slice (some ⟨V,0,none⟩) 1 1/\(¬L 17->w'.heap[V]?=some (.cells #[.string y.n,.int .i64 y.x,.int .i64 y.y] 34))
 v8:L 17->¬L 22->w'.ownsRow Wd.heap.size 34 3 (vs 17) (k+1) (aJ Fx.cells (l.take k)++y.cells)
 v13:L 22->¬L 24->w'.ownsRow Wd.heap.size 34 3 (vs 22) (l.length+1) (aJ Fx.cells (l.take k)++y.cells++aJ Fx.cells (l.drop k))
 w15:L 24->∃w0,aG Wd w0/\w0.ownsRow Wd.heap.size 34 3 (vs 22) (l.length+1) (aJ Fx.cells (l.take k)++y.cells++aJ Fx.cells (l.drop k))/\w'=w0.setCell ⟨A,1,none⟩ (vs 22)
 bw:¬L 24->aG Wd w'
theorem KF.ext (L d:Nat->Prop)(n:Nat->Va)(w':Wd)(h:∀j,L j↔d j)(q:KF e A k l y f g a o i m b c L n w'):KF e A k l y f g a o i m b c d n w':=by
 obtain rfl:L=d:=funext λj=>propext (h j);exact q
theorem KF.zL {w' i:Wd}(q:KF z A k l y r s b w t u d f L v w')(j:¬L 24)(a:aG w' i):KF z A k l y r s b w t u d f L v i:=
 ⟨q.c,λh=>by obtain⟨p,e,x,m⟩:=q.v0 h;exact⟨p,e,x,λn=>bJ (m n) a⟩,λh g=>dC (q.v5 h g) a,λh=>by obtain⟨V,e,m⟩:=q.v7 h;exact⟨V,e,λn=>bJ (m n) a⟩,λh g=>dC (q.v8 h g) a,λh g=>dC (q.v13 h g) a,λh=>absurd h j,λh=>aE (q.bw h) a⟩
theorem KF.cc (q:KF z A k l y g m a r o w b d L x w')(i:Nat)(v:Va)(t:∀u,KFc A k y g m a r o w b d i=some u->u=v):∀j u,KFc A k y g m a r o w b d j=some u->(L j∨j=i)->aH x i v j=u:=λj u e h=>by
 by_cases n:j=i;·subst n;rw[t u e];simp[aH]
 ·rw[show aH x i v j=x j from by simp[aH,n]];exact q.c j u e (h.resolve_right n)
theorem KF.addc (q:KF C A k l y d f a t o r b c L x w')(i:Nat){v:Va}(D:KFc A k y d f a t o r b c i=some v):KF C A k l y d f a t o r b c (λj=>L j∨j=i) (aH x i v) w':=by
 have n:∀m,KFc A k y d f a t o r b c m=none->m≠i:=λm w e=>by rw[e,D]at w;cases w
 have u:∀m,KFc A k y d f a t o r b c m=none->aH x i v m=x m:=λm w=>by simp[aH,n m w]
 refine⟨q.cc i v (λu e=>by rw[D]at e;cases e;rfl),λh=>?_,λh g=>?_,λh=>?_,λh g=>?_,λh g=>?_,λh=>?_,λh=>q.bw (λs=>h (.inl s))⟩;·rw[u 0 rfl];obtain⟨p,e,F,z⟩:=q.v0 (h.resolve_right (n 0 rfl));exact⟨p,e,F,λB=>z (λs=>B (.inl s))⟩
 ·rw[u 5 rfl];exact q.v5 (h.resolve_right (n 5 rfl)) (λs=>g (.inl s))
 ·rw[u 16 rfl];obtain⟨V,e,z⟩:=q.v7 (h.resolve_right (n 16 rfl));exact⟨V,e,λB=>z (λs=>B (.inl s))⟩
 ·rw[u 17 rfl];exact q.v8 (h.resolve_right (n 17 rfl)) (λs=>g (.inl s))
 ·rw[u 22 rfl];exact q.v13 (h.resolve_right (n 22 rfl)) (λs=>g (.inl s))
 ·rw[u 22 rfl];exact q.w15 (h.resolve_right (n 24 rfl))
theorem KF.add0 (q:KF z A k l y i m a t n o b c L W w')(x:∃p,B=.slice (some (Y p 0)) 0 0/\z.heap.size<=p/\w'.heap[p]?=some (.cells #[] 34)):KF z A k l y i m a t n o b c (λj=>L j∨j=0) (aH W 0 B) w':=
 ⟨q.cc 0 B (λ_ e=>by cases e),λ_=>by obtain⟨p,e,u,f⟩:=x;exact⟨p,e,u,λ_=>f⟩,λh g=>q.v5 (iT h) (λs=>g (.inl s)),λh=>by obtain⟨V,e,f⟩:=q.v7 (iT h);exact⟨V,e,λw=>f (λs=>w (.inl s))⟩,λh g=>q.v8 (iT h) (λs=>g (.inl s)),λh g=>q.v13 (iT h) (λs=>g (.inl s)),λh=>q.w15 (iT h),λh=>q.bw (λs=>h (.inl s))⟩
theorem KF.add5 (q:KF z A k l y i n a u o r b c L W w')(x:w'.ownsRow z.heap.size 34 3 B k (aJ Fx.cells (l.take k))):KF z A k l y i n a u o r b c (λj=>L j∨j=5) (aH W 5 B) w':=
 ⟨q.cc 5 B (λ_ e=>by cases e),λh=>by obtain⟨p,e,w,m⟩:=q.v0 (iT h);exact⟨p,e,w,λf=>absurd (.inr rfl) f⟩,λ_ _=>x,λh=>by obtain⟨V,e,m⟩:=q.v7 (iT h);exact⟨V,e,λf=>m (λs=>f (.inl s))⟩,λh g=>q.v8 (iT h) (λs=>g (.inl s)),λh g=>q.v13 (iT h) (λs=>g (.inl s)),λh=>q.w15 (iT h),λh=>q.bw (λs=>h (.inl s))⟩
theorem KF.add7 (q:KF C A k l y i m a u o r b c L W w')(B:∃V,D=.slice (some (Y V 0)) 1 1/\w'.heap[V]?=some (.cells #[.string y.n,I y.x,I y.y] 34)):KF C A k l y i m a u o r b c (λj=>L j∨j=16) (aH W 16 D) w':=
 ⟨q.cc 16 D (λ_ e=>by cases e),λh=>by obtain⟨p,e,w,d⟩:=q.v0 (iT h);exact⟨p,e,w,λz=>d (λs=>z (.inl s))⟩,λh g=>q.v5 (iT h) (λs=>g (.inl s)),λ_=>by obtain⟨V,e,d⟩:=B;exact⟨V,e,λ_=>d⟩,λh g=>q.v8 (iT h) (λs=>g (.inl s)),λh g=>q.v13 (iT h) (λs=>g (.inl s)),λh=>q.w15 (iT h),λh=>q.bw (λs=>h (.inl s))⟩
theorem KF.add8 (q:KF C A k l y n o b u r s c d L W w') (x:L 5) (i:¬L 22) (m:¬L 24) (B:F.ownsRow C.heap.size 34 3 D (k+1) (aJ Fx.cells (l.take k)++y.cells)) (z:aG C F):KF C A k l y n o b u r s c d (λj=>L j∨j=17) (aH W 17 D) F:=
 ⟨q.cc 17 D (λ_ e=>by cases e),λh=>by obtain⟨p,e,w,_⟩:=q.v0 (iT h);exact⟨p,e,w,λg=>absurd (.inl x) g⟩,λ_ g=>absurd (.inr rfl) g,λh=>by obtain⟨V,e,_⟩:=q.v7 (iT h);exact⟨V,e,λg=>absurd (.inr rfl) g⟩,λ_ _=>B,λh=>absurd (iT h) i,λh=>absurd (iT h) m,λ_=>z⟩
theorem KF.add13 {v:Va} (q:KF C A k l y m n b u r s c d L W w') (x:L 5) (o:L 17) (i:¬L 24) (B:F.ownsRow C.heap.size 34 3 v (ln l+1) (aJ Fx.cells (l.take k)++y.cells++aJ Fx.cells (l.drop k))) (z:aG C F):KF C A k l y m n b u r s c d (λj=>L j∨j=22) (aH W 22 v) F:=
 ⟨q.cc 22 v (λ_ e=>by cases e),λh=>by obtain⟨p,e,w,_⟩:=q.v0 (iT h);exact⟨p,e,w,λg=>absurd (.inl x) g⟩,λ_ g=>absurd (.inl o) g,λh=>by obtain⟨V,e,_⟩:=q.v7 (iT h);exact⟨V,e,λg=>absurd (.inl o) g⟩,λ_ g=>absurd (.inr rfl) g,λ_ _=>B,λh=>absurd (iT h) i,λ_=>z⟩
theorem KF.add15 {v:Va}(q:KF z A k l y n o a u s t d f L W w')(x:L 5)(r:L 17)(b:L 22)(c:¬L 24):KF z A k l y n o a u s t d f (λj=>L j∨j=24) (aH W 24 v) (w'.setCell (Y A 1) (W 22)):=
 ⟨q.cc 24 v (λ_ e=>by cases e),λh=>by obtain⟨p,e,w,_⟩:=q.v0 (iT h);exact⟨p,e,w,λg=>absurd (.inl x) g⟩,λ_ g=>absurd (.inl r) g,λh=>by obtain⟨V,e,_⟩:=q.v7 (iT h);exact⟨V,e,λg=>absurd (.inl r) g⟩,λ_ g=>absurd (.inl b) g,λ_ g=>absurd (.inr rfl) g,λ_=>⟨w',q.bw c,q.v13 b c,rfl⟩,λh=>absurd (.inr rfl) h⟩
theorem SM (h:gD 34 3 Fx.cells e A p l (ln l))(c:ln l<=p)(b:aG e z):∀j u,(aJ Fx.cells (l.take k))[j]?=some u->z.cell? (((Y A 0):Addr).add j)=some u:=
 nA Fx.cells_length dz (λi d=>by
  rw[List.getElem_take];exact(h.xs' Fx.cells_length (nlq _) c i (by simp at d;omega)).zL b)
theorem VM (h:gD 34 3 Fx.cells e A p l (ln l))(c:ln l<=p)(b:aG e z):∀j u,(aJ Fx.cells (l.drop k))[j]?=some u->z.cell? (((Y A (k*3)):Addr).add j)=some u:=
 nA Fx.cells_length dz (λi d=>by
  rw[List.getElem_drop];have:=(h.xs' Fx.cells_length (nlq _) c (k+i) (by simp at d;omega)).zL b;rwa[nza,Nat.add_mul]at this)
theorem AB (d:k<=ln l)(c:∀j (h:j<ln l),j<k->gE l[j].n nm=true)(b:∀h:k<ln l,gE l[k].n nm=false):qC l nm=k:=by
 induction l generalizing k with
 |nil=>simp at d;subst d;rfl
 |cons a r ih=>
  cases k with
  |zero=>
   have:=b sm;simp only[List.getElem_cons_zero]at this;simp[qC,this]
  |succ m=>
   have e:=c 0 sm om;simp only[List.getElem_cons_zero]at e;have:=ih (k:=m) (by simpa using d) (λj h hj=>by have:=c (j+1) (by simpa using h) om;simpa using this) (λh=>by have:=b (by simpa using h);simpa using this);simp only[qC]at this ⊢;simp[e,this]
theorem fx_at (b:bC e A k y.cells):e.cell? (Y A k)=some (.string y.n):=b 0 _ rfl
theorem ws4 (h:ln j=4):∃n nm x y,j=[n,nm,x,y]:=by
 match j,h with
 |[n,nm,x,y],_=>exact⟨n,nm,x,y,rfl⟩
theorem OX (D:Nat)(w:Wd)(s:St)(b:Bk)(ta:Oa)(tc kk:Nat)(hS:o9 D w s b ta tc)(qc:jF kk s)(ws:List Ba)(bl zc ze:Nat)(hX:Xs 1 eE w (some (Y bl zc)) ws)(h4:ln ws=4)(N:ln ws<=ze)(qg:∀x∈ws,x.size<=1048575):
 aW 47 #[E D 0,.slice (some (Y bl zc)) (ln ws) ze] w λe w'=>RO D w (gH s ws.tail) e w':=by
 obtain⟨jf,xb,xe,xf,xg⟩:=info_parts Tryz.info34;obtain⟨n,nm,xw,yw,yd⟩:=ws4 h4;have xy:Xs 1 eE w (some (Y bl (zc+2))) [xw,yw]:=jN hX 2 [n,nm] _ [] (by rw[yd];rfl) rfl;have M:=iC hX 1 nm (by rw[yd];rfl);have qu:nm.size<=1048575:=qg nm (by rw[yd];simp);have zg:Hid (gH s ws.tail=if j7 [xw,yw]then(if aO (gR s.b ⟨nm,aV xw,aV yw⟩)then(⟨gR s.b ⟨nm,aV xw,aV yw⟩,s.t⟩,VW)else(s,sNo))else(s,dR)):=by rw[yd];rfl
 rw[h4]at N ⊢;clear yd hX qg h4 n
 go_enter func47,ntmps47
 go_wp2_with fail
 refine(cC [xw,yw] (some (Y bl (zc+2))) (ze-2) w xy sm).mono ?_;rintro e w1 ⟨⟨v1,rfl,qh⟩,S⟩;have ys:=aI qh;have xl:=aI S
 replace M:=ctq S M
 replace hS:=hS.zL S
 clear qh S xy
 cases zf:j7 [xw,yw]with
 |false=>
  have HR:Hid (gH s ws.tail=(s,dR)):=by rw[Hid,zg.oQ,zf];rfl
  clear zf ys zg;go_wp2
  go_ret;exact⟨⟨_,_,_,by rw[HR.oQ];exact hS⟩,by rw[HR.oQ];rfl,aU.below xl.oQ⟩
 |true=>
  obtain⟨a2',c2,rfl,qv⟩:=ys.oQ zf
  rcases qv with h|⟨g,oo,rfl,yy⟩
  ·simp[aS]at h
  have i0:w1.cell? (Y g oo)=some (I (aV xw)):=by have:=yy 0 (by simp[aS]) 0 _ rfl;simpa[aS]using this
  have i1:w1.cell? (Y g (oo+1))=some (I (aV yw)):=by have:=yy 1 (by simp[aS]) 0 _ rfl;simpa[aS]using this
  have e5:ln (aS [xw,yw])=2:=rfl;rw[e5];obtain⟨y,hy⟩:=bQ (⟨nm,aV xw,aV yw⟩:Fx);have xj:Hid (gH s ws.tail=if aO (gR s.b y)then(⟨gR s.b y,s.t⟩,VW)else(s,sNo)):=by rw[Hid,zg.oQ,zf,hy];rfl
  have qq:Hid (y.n.size<=9223372036854775807):=by rw[Hid,hy];show nm.size<=_;omega
  replace M:w1.cell? (Y bl (zc+1))=some (.string y.n):=by rw[hy];exact M
  replace i0:w1.cell? (Y g oo)=some (I y.x):=by rw[hy];exact i0
  replace i1:w1.cell? (Y g (oo+1))=some (I y.y):=by rw[hy];exact i1
  have C:=hS.b.asks qc.b;obtain⟨c0,c1,qr,c3⟩:=hS.c;have zy:ln b.fl<=4:=(IF (hS.b.book.trans qc.b)).1;clear hy e5 yy ys zg zf qu;go_wp2_with fail
  refine(jR b w1 C.hf C.hnf C.hh C.hnh C.hgood).mono ?_;rintro e w2 ⟨⟨c,rfl,qa,yh,zi,zm⟩,G⟩;have yq:Hid (K8 s.b.now s.b.fl s.b.hl c):=⟨qa.trans hS.b.c.now,yh.trans hS.b.c.fl,hS.b.c.lk.trans zi⟩;have xk:Hid (∀f∈c.fl,f.n.size<=9223372036854775807):=by rw[Hid,yh];exact C.hs
  have ql:Hid (ln c.hl<=1048576):=by rw[Hid,zi.len];exact C.hnh
  have qk:Hid (∀x∈c.hl,x.Fit):=zi.fit (λx hx=>(C.hgood x hx).2);have hcl4:ln c.fl<=4:=by rw[yh];exact zy
  have xn:=aI (aE xl.oQ G)
  replace M:=ctq G M
  replace i0:=ctq G i0
  replace i1:=ctq G i1
  have qs:D<w1.heap.size:=iB hS.o
  replace hS:=hS.zL G
  have zd:Hid (aG w2 (w2.alloc c.obj)):=aC (br _ _) _;have ye:=wnq w2 c.obj
  replace M:=ctq zd.oQ M
  replace i0:=ctq zd.oQ i0
  replace i1:=ctq zd.oQ i1
  have xi:=aI (zm.zL zd.oQ);have hs12:=G.size;have qf:=zd.oQ.size;have hO:=(zm.zL zd.oQ).f;obtain⟨A,yu⟩:=bQ w2.heap.size;have hA2:w2.heap.size<=A:=om
  rw[←yu]at ye;obtain⟨W2,xu⟩:=cI (w2.alloc c.obj);rw[xu]at ye M i0 i1 zd xi hO qf;have xh:=aI ye;clear qa yh zi C G c0 c1 qr c3 zy zm ye
  go_upto_block 0 with fail
  rw[←yu];clear xu yu
  go_cut [8] (λiv wx=>∃k:Nat,k<=ln c.fl/\iv=I (k:Int)/\aG W2 wx/\qC c.fl y.n=k)
  case first=>
   go_wp2_with fail
   go_loopw [8] (λiv wr=>∃k:Nat,k<=ln c.fl/\iv=I (k:Int)/\aG W2 wr/\Hid (∀j (h:j<ln c.fl),j<k->gE c.fl[j].n y.n=true)) (λiv _=>ln c.fl-(intOf iv).toNat)
   case atStart=>exact⟨0,nz _,rfl,br _ _,λj h U=>by omega⟩
   case round=>
    obtain⟨k,hk,rfl,hB,zp⟩:=hrel;have HB:=aI hB;have a2:wr.cell? (Y A 1)=some (.slice c.fa (ln c.fl) c.fc):=aB (bJ xh.oQ hB) rfl;have q1:=ctq hB M
    by_cases yj:k<ln c.fl
    ·obtain⟨g',ha,yz,H⟩:∃g,c.fa=some (Y g 0)/\(ln c.fl)<=c.fc/\gD 34 3 Fx.cells W2 g c.fc c.fl (ln c.fl):=by
      rcases hO with⟨_,e⟩|⟨g,ze,e,_,h2,h3⟩
      ·rw[e]at yj;simp at yj
      ·simp only[vsi]at e
       obtain⟨M,_,rfl⟩:=e;exact⟨g,M,h2,h3⟩
     have c0:=fx_at (H.xs' Fx.cells_length (nlq _) yz k yj);rw[nza]at c0;have c0:=ctq hB c0;rw[ha]at a2;obtain⟨x,hx⟩:=bQ (c.fl[k]);rw[←hx]at c0;have xp:=aI hx;clear hx ha H hO hB
     cases hq:gE x.n y.n with
     |true=>
      have qm:Hid (∀j (h:j<ln c.fl),j<k+1->gE c.fl[j].n y.n=true):=λj h U=>by
       by_cases e:j=k
       ·subst e;rw[←xp.oQ];exact hq
       ·exact zp.out j h om
      clear zp;unfold gE at hq;go_wp2_with fail
      go_quiet (fail)
      go_wp2
      go_roundw
      case rel=>exact⟨k+1,om,gn,(below_drewN HB.oQ _),qm⟩
      case measure=>simp[intOf];omega
     |false=>
      have zq:Hid (qC c.fl y.n=k):=AB hk zp.out (λh=>by have e:=xp.oQ;rw[←e];exact hq);clear zp;unfold gE at hq;go_wp2_with fail
      go_quiet (fail)
      go_wp2
      all_goals go_meet
      all_goals exact⟨k,hk,rfl,(below_drewN HB.oQ _),zq.oQ⟩
    ·have zq:Hid (qC c.fl y.n=k):=AB hk zp.out (λh=>absurd h yj)
     clear zp hO hB;go_wp2_with fail
     go_quiet (fail)
     go_wp2
     all_goals go_meet
     all_goals exact⟨k,hk,rfl,(below_drewN HB.oQ _),zq.oQ⟩
  case rest=>
   obtain⟨k,hk,rfl,hB,qe⟩:=hcut
   have yr:Hid (gY c.fl y=c.fl.take k++y::c.fl.drop k):=by
    show gY c.fl y=_
    unfold gY;rw[qe]
   obtain⟨J,zk⟩:∃J:Oa,(c.fa=none/\c.fl=[]/\c.fc=0/\J=none/\k=0)∨∃g,c.fa=some (Y g 0)/\(ln c.fl)<=c.fc/\gD 34 3 Fx.cells W2 g c.fc c.fl (ln c.fl)/\((k<c.fc/\J=some (Y g (k*3)))∨(¬k<c.fc/\J=some (Y g 0))):=by
    rcases hO with⟨e,zn⟩|⟨g,ze,e,_,N,H⟩
    ·simp only[vsi]at e
     exact⟨none,.inl ⟨e.1,zn,e.2.2,rfl,by rw[zn]at hk;simpa using hk⟩⟩
    ·simp only[vsi]at e
     obtain⟨M,_,rfl⟩:=e
     by_cases yb:k<c.fc
     ·exact⟨_,.inr ⟨g,M,N,H,.inl ⟨yb,rfl⟩⟩⟩
     ·exact⟨_,.inr ⟨g,M,N,H,.inr ⟨yb,rfl⟩⟩⟩
   have HA:Hid _:=zk
   have HN:Hid (c.fa=none->k=0):=λe=>by
    rcases zk with h|⟨g,Q,_⟩
    ·exact h.2.2.2.2
    ·rw[e]at Q;cases Q
   have qn:Hid (J=none->c.fl=[]/\c.fc=0/\k=0):=λe=>by
    rcases zk with h|⟨g,_,_,_,⟨_,Z⟩|⟨_,Z⟩⟩
    ·exact⟨h.2.1,h.2.2.1,h.2.2.2.2⟩
    ·rw[e]at Z;cases Z
    ·rw[e]at Z;cases Z
   have Nd:aG W2 wc.drew:=hB.drew;obtain⟨Wd,xv⟩:=cI wc.drew;rw[xv]at Nd;have zj:=aI (bJ xh.oQ Nd);have a2:Wd.cell? (Y A 1)=some (.slice c.fa (ln c.fl) c.fc):=aB zj.oQ rfl
   replace M:=ctq Nd M
   replace i0:=ctq Nd i0
   replace i1:=ctq Nd i1
   have hAw:A<Wd.heap.size:=iB zj.oQ
   have qp:Hid (∀ad,c.fa=some ad->∀w',aG Wd w'->∀j u,(aJ Fx.cells (c.fl.take k))[j]?=some u->w'.cell? (ad.add j)=some u):=λad e w' h=>by
    rcases zk with⟨Q,_⟩|⟨g,Q,N,H,_⟩
    ·rw[Q]at e;cases e
    ·rw[Q]at e;cases e
     exact SM H N (aE Nd h)
   have qj:Hid (∀ad,J=some ad->∀w',aG Wd w'->∀j u,(aJ Fx.cells (c.fl.drop k))[j]?=some u->w'.cell? (ad.add j)=some u):=λad e w' h j u U=>by
    rcases zk with⟨_,_,_,Z,_⟩|⟨g,_,N,H,⟨_,Z⟩|⟨yb,Z⟩⟩
    ·rw[Z]at e;cases e
    ·rw[Z]at e;cases e
     exact VM H N (aE Nd h) j u U
    ·rw[List.drop_of_length_le om]at U;simp[aJ]at U
   clear hB zk hO qe;go_wp2_with fail
   refine wpIn_wide.1 (fA (F:=Fence.wide) (n:=0) kr [some 41,some 42,some 43,some 44,some 45,some 46,some 47,some 48,some 49,some 50,some 51,some 52,some 53,some 54,some 55,some 56,some 57,some 58,some 59,some 60,some 61,some 62,some 63,some 64] (KF Wd A k c.fl y (.slice c.fa (ln c.fl) c.fc) (.slice c.fa k c.fc) (.slice J (ln c.fl-k) (c.fc-k)) (.slice (some (Y bl zc)) 4 ze) (E bl (zc+1)) (.slice (some (Y g oo)) 2 c2) (E g oo) (E g (oo+1))) kr ?h0 KF.ext ?step ?fin)
   case h0=>
    exact⟨λ_ _ _ h=>h.elim,λh=>h.elim,λh=>h.elim,λh=>h.elim,λh=>h.elim,λh=>h.elim,λh=>h.elim,λ_=>by rw[xv];exact br _ _⟩
   case step=>
    intro L ii o vs w' O r B z hK;have hi:ii<25:=(lgs.1 O).1;have m:=aI hK;clear hK
    match ii,hi with
    |0,_=>
     cases O
     have d:¬L 24:=λh=>r (z 24 _ h rfl (eP 0) sm rfl);have l:=m.oQ.bw d;have S:aG w' (w'.alloc (.cells #[] 34)):=aC (br _ _) _;have R:Hid _:=(m.oQ.zL d S).add0 ⟨w'.heap.size,rfl,l.size,wnq w' _⟩;clear S;gi_wp2;exact⟨_,uhx,R.oQ⟩
    |1,_=>
     cases O
     have d:¬L 24:=λh=>r (z 24 _ h rfl (eP 1) sm rfl);have l:=m.oQ.bw d;gi_wp2;exact⟨(E A 1),uhx,m.oQ.addc 1 rfl⟩
    |2,_=>
     cases O
     have d:¬L 24:=λh=>r (z 24 _ h rfl (eP 2) sm rfl);have l:=m.oQ.bw d;have d1:=m.oQ.c 1 _ rfl (Zq B 1);have k2:=ctq l a2;simp only[aD,Act.put];rw[d1];gi_wp2;exact⟨.slice c.fa (ln c.fl) c.fc,by simp[aH,d1],m.oQ.addc 2 rfl⟩
    |3,_=>
     cases O
     have d:¬L 24:=λh=>r (z 24 _ h rfl (eP 3) sm rfl);have l:=m.oQ.bw d;gi_wp2;exact⟨I ((k:Nat):Int),uhx,m.oQ.addc 3 rfl⟩
    |4,_=>
     cases O
     have d:¬L 24:=λh=>r (z 24 _ h rfl (eP 4) sm rfl);have l:=m.oQ.bw d;have d2:=m.oQ.c 2 _ rfl (Zq B 2);have d3:=m.oQ.c 3 _ rfl (Zq B 3);have R:Hid _:=m.oQ.addc 4 (v:=.slice c.fa k c.fc) rfl
     rcases HA.oQ with⟨Q,M,e2,-,rfl⟩|⟨g,Q,M,-,-⟩
     ·have d2:vs 2=ms:=by rw[d2,Q,M,e2];rfl
      have E0:Hid (c.fa=none/\c.fc=0):=⟨Q,e2⟩;clear Q M e2;simp only[aD,Act.put];rw[d2,d3];gi_wp2;exact⟨.slice c.fa 0 c.fc,by simp[aH,d2,d3,E0.out],R.oQ⟩
     ·have d2:vs 2=.slice (some (Y g 0)) (ln c.fl) c.fc:=by rw[d2,Q]
      have E0:Hid _:=Q;clear Q;simp only[aD,Act.put];rw[d2,d3];gi_wp2;exact⟨.slice c.fa k c.fc,by simp[aH,d2,d3,E0.out],R.oQ⟩
    |5,_=>
     cases O
     have d:¬L 24:=λh=>r (z 24 _ h rfl (eP 5) sm rfl);have l:=m.oQ.bw d;have d4:=m.oQ.c 4 _ rfl (Zq B 4);obtain⟨p,d0,zf,qd⟩:=m.oQ.v0 (Zq B 0);have hp:=qd r;simp only[aD,Act.put,sit,lcs,lcz];rw[d0,d4];refine lN w' rfl (.tmp 41) (.tmp 45) 28 rfl 34 jf _ 3 32 underlying28 xb xe xf xg rfl dz p rfl hp c.fa k c.fc (aJ Fx.cells (c.fl.take k)) rfl HN.oQ (by rw[cP Fx.cells_length,llt];congr 1;omega) (λad e j u U=>qp.oQ ad e w' l j u U) (iP oK _) (by unfold maxLen;omega) om Wd.heap.size zf (λv' w2 P G=>?_);have R:Hid _:=(m.oQ.zL d G).add5 P;clear P G hp qd;gi_wp2;exact⟨_,by simp[aH,d0,d4],R.oQ⟩
    |6,_=>
     cases O
     have d:¬L 24:=λh=>r (z 24 _ h rfl (eP 6) sm rfl);have l:=m.oQ.bw d;gi_wp2;exact⟨.slice (some (Y bl zc)) 4 ze,uhx,m.oQ.addc 6 rfl⟩
    |7,_=>
     cases O
     have d:¬L 24:=λh=>r (z 24 _ h rfl (eP 7) sm rfl);have l:=m.oQ.bw d;have d6:=m.oQ.c 6 _ rfl (Zq B 6);simp only[aD,Act.put];rw[d6];gi_wp2;exact⟨(E bl (zc+1)),by simp[aH,d6],m.oQ.addc 7 rfl⟩
    |8,_=>
     cases O
     have d:¬L 24:=λh=>r (z 24 _ h rfl (eP 8) sm rfl);have l:=m.oQ.bw d;have d7:=m.oQ.c 7 _ rfl (Zq B 7);have ke1:=ctq l M;simp only[aD,Act.put];rw[d7];gi_wp2;exact⟨.string y.n,by simp[aH,d7],m.oQ.addc 8 rfl⟩
    |9,_=>
     cases O
     have d:¬L 24:=λh=>r (z 24 _ h rfl (eP 9) sm rfl);have l:=m.oQ.bw d;gi_wp2;exact⟨.slice (some (Y g oo)) 2 c2,uhx,m.oQ.addc 9 rfl⟩
    |10,_=>
     cases O
     have d:¬L 24:=λh=>r (z 24 _ h rfl (eP 10) sm rfl);have l:=m.oQ.bw d;have d9:=m.oQ.c 9 _ rfl (Zq B 9);simp only[aD,Act.put];rw[d9];gi_wp2;exact⟨(E g oo),by simp[aH,d9],m.oQ.addc 10 rfl⟩
    |11,_=>
     cases O
     have d:¬L 24:=λh=>r (z 24 _ h rfl (eP 11) sm rfl);have l:=m.oQ.bw d;have K:=m.oQ.c 10 _ rfl (Zq B 10);have ki0:=ctq l i0;simp only[aD,Act.put];rw[K];gi_wp2;exact⟨I y.x,by simp[aH,K],m.oQ.addc 11 rfl⟩
    |12,_=>
     cases O
     have d:¬L 24:=λh=>r (z 24 _ h rfl (eP 12) sm rfl);have l:=m.oQ.bw d;gi_wp2;exact⟨.slice (some (Y g oo)) 2 c2,uhx,m.oQ.addc 12 rfl⟩
    |13,_=>
     cases O
     have d:¬L 24:=λh=>r (z 24 _ h rfl (eP 13) sm rfl);have l:=m.oQ.bw d;have X:=m.oQ.c 12 _ rfl (Zq B 12);simp only[aD,Act.put];rw[X];gi_wp2;exact⟨(E g (oo+1)),by simp[aH,X],m.oQ.addc 13 rfl⟩
    |14,_=>
     cases O
     have d:¬L 24:=λh=>r (z 24 _ h rfl (eP 14) sm rfl);have l:=m.oQ.bw d;have xq:=m.oQ.c 13 _ rfl (Zq B 13);have ki1:=ctq l i1;simp only[aD,Act.put];rw[xq];gi_wp2;exact⟨I y.y,by simp[aH,xq],m.oQ.addc 14 rfl⟩
    |15,_=>
     cases O
     have d:¬L 24:=λh=>r (z 24 _ h rfl (eP 15) sm rfl);have l:=m.oQ.bw d;have d8:=m.oQ.c 8 _ rfl (Zq B 8);have W:=m.oQ.c 11 _ rfl (Zq B 11);have zr:=m.oQ.c 14 _ rfl (Zq B 14);simp only[aD,Act.put];rw[d8,W,zr];gi_wp2;exact⟨y.val,by simp[aH,d8,W,zr],m.oQ.addc 15 rfl⟩
    |16,_=>
     cases O
     have d:¬L 24:=λh=>r (z 24 _ h rfl (eP 16) sm rfl);have l:=m.oQ.bw d;have d6:=m.oQ.c 15 _ rfl (Zq B 15);have S:aG w' (w'.alloc (.cells #[.string y.n,I y.x,I y.y] 34)):=aC (br _ _) _;have R:Hid _:=(m.oQ.zL d S).add7 ⟨w'.heap.size,rfl,wnq w' _⟩;clear S;gi_wp2;exact⟨_,by simp[aH,d6],R.oQ⟩
    |17,_=>
     cases O
     have d:¬L 24:=λh=>r (z 24 _ h rfl (eP 17) sm rfl);have l:=m.oQ.bw d;have h5:L 5:=Zq B 5;have zt:¬L 22:=λh=>r (z 22 _ h rfl (eD 17) sm rfl);have yk:=m.oQ.v5 h5 r;obtain⟨V,d7,xt⟩:=m.oQ.v7 (Zq B 16);have hV:=xt r;obtain⟨u5,e5⟩:∃u,vs 5=u:=⟨_,rfl⟩;rw[e5]at yk;simp only[aD,Act.put,sit,lcs,lcz];rw[d7,e5]
     refine wpListIn_append_own w' rfl (.tmp 46) (.tmp 57) 28 rfl Wd.heap.size 34 jf _ 3 32 underlying28 xb xe xf xg rfl dz u5 k (aJ Fx.cells (c.fl.take k)) rfl yk (Y V 0) 1 1 y.cells rfl (by simp[Fx.cells]) (λj u U=>by
      rw[aal,nza]
      match j,U with
      |0,U=>simp[Fx.cells]at U;subst U;exact aB hV rfl
      |1,U=>simp[Fx.cells]at U;subst U;exact aB hV rfl
      |2,U=>simp[Fx.cells]at U;subst U;exact aB hV rfl) (oK y) (by unfold maxLen;omega) om l.size (λv' w2 P zz _=>?_)
     have G:aG Wd w2:=l.grown zz l.size (λq hq=>eH yk hq);have R:Hid _:=m.oQ.add8 h5 zt d P G;clear P zz yk hV xt;gi_wp2;exact⟨_,by simp[aH,d7,e5],R.oQ⟩
    |18,_=>
     cases O
     have d:¬L 24:=λh=>r (z 24 _ h rfl (eP 18) sm rfl);have l:=m.oQ.bw d;gi_wp2;exact⟨(E A 1),uhx,m.oQ.addc 18 rfl⟩
    |19,_=>
     cases O
     have d:¬L 24:=λh=>r (z 24 _ h rfl (eP 19) sm rfl);have l:=m.oQ.bw d;have d9:=m.oQ.c 18 _ rfl (Zq B 18);have k2:=ctq l a2;simp only[aD,Act.put];rw[d9];gi_wp2;exact⟨.slice c.fa (ln c.fl) c.fc,by simp[aH,d9],m.oQ.addc 19 rfl⟩
    |20,_=>
     cases O
     have d:¬L 24:=λh=>r (z 24 _ h rfl (eP 20) sm rfl);have l:=m.oQ.bw d;gi_wp2;exact⟨I ((k:Nat):Int),uhx,m.oQ.addc 20 rfl⟩
    |21,_=>
     cases O
     have d:¬L 24:=λh=>r (z 24 _ h rfl (eP 21) sm rfl);have l:=m.oQ.bw d;have K:=m.oQ.c 19 _ rfl (Zq B 19);have W:=m.oQ.c 20 _ rfl (Zq B 20);have R:Hid _:=m.oQ.addc 21 (v:=.slice J (ln c.fl-k) (c.fc-k)) rfl
     rcases HA.oQ with⟨Q,M,e2,Z,rfl⟩|⟨g,Q,M,-,h3⟩
     ·have K:vs 19=ms:=by rw[K,Q,M,e2];rfl
      have E0:Hid (c.fl=[]/\c.fc=0/\J=none):=⟨M,e2,Z⟩;clear Q M e2 Z;simp only[aD,Act.put];rw[K,W];gi_wp2;exact⟨.slice J (ln c.fl-0) (c.fc-0),by simp[aH,K,W,E0.out],R.oQ⟩
     ·have K:vs 19=.slice (some (Y g 0)) (ln c.fl) c.fc:=by rw[K,Q]
      clear Q
      rcases h3 with⟨yb,Z⟩|⟨yb,Z⟩
      ·have E3:Hid _:=Z
       clear Z;simp only[aD,Act.put];rw[K,W];gi_wp2;exact⟨.slice J (ln c.fl-k) (c.fc-k),by simp[aH,K,W,E3.out],R.oQ⟩
      ·have qb:c.fc-k=0:=om
       have E3:Hid _:=Z;clear Z;simp only[aD,Act.put];rw[K,W];gi_wp2;exact⟨.slice J (ln c.fl-k) (c.fc-k),by simp[aH,K,W,E3.out,qb];omega,by have h:=R.oQ;have e:c.fc=k:=om;simp only[e,nss]at h ⊢;exact h⟩
    |22,_=>
     cases O
     have d:¬L 24:=λh=>r (z 24 _ h rfl (eP 22) sm rfl);have l:=m.oQ.bw d;have X:=m.oQ.c 21 _ rfl (Zq B 21);have h8:L 17:=Zq B 17;have h5:L 5:=z 17 _ h8 rfl (eD 5) sm rfl;have zb:=m.oQ.v8 h8 r;obtain⟨u8,e8⟩:∃u,vs 17=u:=⟨_,rfl⟩
     cases J with
     |none=>
      obtain⟨zn,xz,yi⟩:=qn.oQ rfl
      obtain⟨g8,T,e9,hc8⟩:∃g8 T,vs 17=.slice (some (Y g8 0)) 1 T/\1<=T:=by
       rw[yi]at zb;obtain⟨_,⟨_,e⟩|⟨g8,T,_,e,_,_,qt,_⟩⟩:=zb
       ·omega
       ·exact⟨g8,T,e,qt⟩
      have R:Hid _:=m.oQ.add13 (v:=vs 17) h5 h8 d (by rw[zn,yi]at zb ⊢;simpa[aJ]using zb) l;have X:vs 21=ms:=by rw[X,zn,xz,yi];rfl
      clear zb zn xz yi;simp only[aD,Act.put];rw[X,e9];gi_wp2;exact⟨vs 17,by simp[aH,X,e9],R.oQ⟩
     |some ad=>
      rw[e8]at zb;simp only[aD,Act.put,sit,lcs,lcz];rw[X,e8];refine wpListIn_append_own w' rfl (.tmp 58) (.tmp 62) 28 rfl Wd.heap.size 34 jf _ 3 32 underlying28 xb xe xf xg rfl dz u8 (k+1) (aJ Fx.cells (c.fl.take k)++y.cells) rfl zb ad (ln c.fl-k) (c.fc-k) (aJ Fx.cells (c.fl.drop k)) rfl (by rw[cP Fx.cells_length,lld]) (λj u U=>qj.oQ ad rfl w' l j u U) (iP oK _) (by unfold maxLen;omega) om l.size (λv' w2 P zz _=>?_);have G:aG Wd w2:=l.grown zz l.size (λq hq=>eH zb hq);have yc:w2.ownsRow Wd.heap.size 34 3 v' (ln c.fl+1) (aJ Fx.cells (c.fl.take k)++y.cells++aJ Fx.cells (c.fl.drop k)):=by rw[show(ln c.fl)+1=k+1+(ln c.fl-k)by omega];exact P
      have R:Hid _:=m.oQ.add13 h5 h8 d yc G;clear P yc zz zb;gi_wp2;exact⟨_,by simp[aH,X,e8],R.oQ⟩
    |23,_=>
     cases O
     have d:¬L 24:=λh=>r (z 24 _ h rfl (eD 23) sm rfl);have l:=m.oQ.bw d;gi_wp2;exact⟨(E A 1),uhx,m.oQ.addc 23 rfl⟩
    |24,_=>
     cases O
     have zr:=m.oQ.c 23 _ rfl (Zq B 23);have l:=m.oQ.bw r;have zt:L 22:=Zq B 22;have h8:L 17:=z 22 _ zt rfl (eD 17) sm rfl;have h5:L 5:=z 17 _ h8 rfl (eD 5) sm rfl;have yo:=m.oQ.v13 zt r
     obtain⟨a8,c8,zs⟩:∃a cq,vs 22=.slice a (ln c.fl+1) cq:=by
      obtain⟨_,⟨_,e⟩|⟨g8,T,_,e,_⟩⟩:=yo
      ·omega
      ·exact⟨_,_,e⟩
     have k2:=ctq l a2;have kf:∀i,w'.frozen? (Y A i)=false:=λi=>by simp[World.frozen?,bJ zj.oQ l]
     have R:Hid _:=m.oQ.add15 (v:=undef) h5 h8 zt r;rw[zs]at R;simp only[aD,Act.put];rw[zr,zs];clear yo;gi_wp2_with fail
     exact⟨undef,by simp[aH,zr,zs],by have h:=R.oQ;simpa using h⟩
    |q+25,h=>omega
   case fin=>
    intro L vs w' xr hK;obtain⟨w9,zx,xc,xd⟩:=hK.w15 (xr 24 dz);have xa:=jY xc
    have zv:bW 34 3 Fx.cells w9 Wd.heap.size (vs 22) (c.fl.take k++y::c.fl.drop k):=iV Fx.cells_length (by
     rw[show(ln (c.fl.take k++y::c.fl.drop k))=ln c.fl+1 by simp;omega];have e:aJ Fx.cells (c.fl.take k++y::c.fl.drop k)=aJ Fx.cells (c.fl.take k)++y.cells++aJ Fx.cells (c.fl.drop k):=by simp[aJ]
     rw[e];exact xc)
    rw[←yr.oQ]at zv;obtain⟨a',c',zs⟩:=zv.slice;rw[zs]at zv xd xa;rw[xd];clear xd xc xr hK;simp only[aD,Act.put];generalize vs=vs;have A9:=aP (bJ zj.oQ zx) 1 (.slice a' (ln (gY c.fl y)) c');have bA:aU (λq=>q=A) w9 (w9.setCell (Y A 1) (.slice a' (ln (gY c.fl y)) c')):=(aU.refl (λq=>q=A) w9).set (g:=A) rfl _ _;have yv:=aE Nd zx
    have zh:dS w1.heap.size (w9.setCell (Y A 1) (.slice a' (ln (gY c.fl y)) c')) ⟨c.now,a',gY c.fl y,c',c.ha,c.hl,c.hc⟩:=by
     have h1:=(xi.oQ.zL yv).butT bA (bJ zj.oQ zx) dz dz dz
     have h2:=(zv.weak (base':=w1.heap.size) (by have:=Nd.size;omega)).butRow bA (λq n f _ hr e=>by
      have e':q=A:=e;subst e';obtain⟨cs,zm,_⟩:=hr;rw[bJ zj.oQ zx]at zm
      simp[Bk.obj]at zm)
     exact⟨h2,h1.h,h1.t,xa⟩
    have yg:aG w2 (w9.setCell (Y A 1) (.slice a' (ln (gY c.fl y)) c')):=((Below.trans zd.oQ (yv.mono om)).setCell (p:=(Y A 1)) (by show w2.heap.size<=A;omega) _);obtain⟨Wf,xx⟩:=cI (w9.setCell (Y A 1) (.slice a' (ln (gY c.fl y)) c'));rw[xx]at A9 zh yg ⊢;have xs:=hS.zL yg;have ym:K8 (gR s.b y).now (gR s.b y).fl (gR s.b y).hl ⟨c.now,a',gY c.fl y,c',c.ha,c.hl,c.hc⟩:=⟨yq.oQ.now,by show gY c.fl y=gY s.b.fl y;rw[yq.oQ.fl],yq.oQ.lk⟩;have za:eI (λk=>k=D) Wf (gR s.b y) ⟨c.now,a',gY c.fl y,c',c.ha,c.hl,c.hc⟩:=zh.at (λk e=>by rw[e];exact qs) ym;have yx:aO (⟨c.now,a',gY c.fl y,c',c.ha,c.hl,c.hc⟩:Bk)=aO (gR s.b y):=za.book;have yn:ln (gY c.fl y)<=1048576:=by rw[yr.oQ];simp;omega
    have C:iX Wf ⟨c.now,a',gY c.fl y,c',c.ha,c.hl,c.hc⟩:=⟨za.inn.f,yn,za.f1,za.f2,λf hf=>by
     rw[show(⟨c.now,a',gY c.fl y,c',c.ha,c.hl,c.hc⟩:Bk).fl=gY c.fl y from rfl,yr.oQ]at hf
     rcases lma.1 hf with h|h
     ·exact xk.oQ f (lmt h)
     ·rcases lmc.1 h with rfl|h
      ·exact qq.oQ
      ·exact xk.oQ f (lmd h),za.inn.h,ql.oQ,λx hx=>⟨za.inn.i x hx,qk.oQ x hx⟩⟩
    have Q:Wf.cell? (Y A 0)=some (I c.now):=aB A9 rfl;have yt:Wf.cell? (Y A 1)=some (.slice a' (ln (gY c.fl y)) c'):=aB A9 rfl;have e2:Wf.cell? (Y A 2)=some (.slice c.ha (ln c.hl) c.hc):=aB A9 rfl;obtain⟨cc,zl⟩:=bQ (⟨c.now,a',gY c.fl y,c',c.ha,c.hl,c.hc⟩:Bk);rw[←zl]at zh za yx C
    replace Q:Wf.cell? (Y A 0)=some (I cc.now):=by rw[zl];exact Q
    replace yt:Wf.cell? (Y A 1)=some (.slice cc.fa (ln cc.fl) cc.fc):=by rw[zl];exact yt
    replace e2:Wf.cell? (Y A 2)=some (.slice cc.ha (ln cc.hl) cc.hc):=by rw[zl];exact e2
    have yp:Hid (Wf.heap[A]?=some cc.obj):=by rw[Hid,zl];exact A9
    clear zl ym A9 bA zv zh zx xx yv xa yn;go_wp2_with fail
    refine(pX C _ yx).mono ?_;rintro e w3 ⟨rfl,zw⟩;have zu:=xs.zL zw;have yl:=za.zL zw;have xm:=aI (aE (xn.oQ.trans (yg.mono xn.oQ.size)) zw);have A3:=bJ yp.oQ zw;clear xs za C zw yg Q yt e2 yx
    cases hq:aO (gR s.b y)with
    |false=>
     have HR:Hid (gH s ws.tail=(s,sNo)):=by rw[Hid,xj.oQ,hq];rfl
     clear hq A3 yp;go_wp2
     go_ret;exact⟨⟨_,_,_,by rw[HR.oQ];exact zu⟩,by rw[HR.oQ];rfl,aU.below xm.oQ⟩
    |true=>
     have HR:Hid (gH s ws.tail=(⟨gR s.b y,s.t⟩,VW)):=by rw[Hid,xj.oQ,hq];rfl
     have qo:=aI (zu.put yl);have qi:=aI ((aU.below xm.oQ).trans (dJ w3 D cc));obtain⟨y0,y1,y2,y3⟩:=zu.c;have yf:=zu.fz;obtain⟨u0,u1,u2⟩:=aM A3;clear hq A3 yp zu yl;go_wp2
     go_ret;exact⟨⟨_,_,_,by rw[HR.oQ];exact qo.oQ⟩,by rw[HR.oQ];rfl,qi.oQ⟩
end Go.Proofs.YtoolgmmljacfmaaGreatDoor
namespace Go.Proofs.YtoolgmmljacfmaaGreatDoor
open Go.BigFrame
theorem YC (D:Nat) (w:Wd) (s:St) (b:Bk) (ta:Oa) (G A:Nat) (j:o9 D w s b ta G) (z:jF A s) (_hkk:A<=1000) (n:Ba) (a:List Ba) (l d f:Nat) (p:Xs 1 eE w (some (Y l d)) (n::a)) (hcap:ln a+1<=f) (hlen:ln a+1<=1048570) (hsz:∀x∈n::a,x.size<=1048575) (F:n.toList=vI):
 aW 23 #[E D 0,.slice (some (Y l d)) (ln a+1) f] w λe w'=>RO D w (aX s (n::a)) e w':=by
 have u:=iC p 0 n rfl;rw[naz]at u;have o:Xs 1 eE w (some (Y l (d+1))) a:=jN p 1 [n] _ [] sm rfl;go_enter Tryz.func23,Tryz.ntmps23;go_upto_region 1 with fail;go_cut [5,6] (λL M H=>M=.bool (j7 a)/\Hid (j7 a=true->∃B J,L=.slice B (ln (aS a)) J/\Xs 1 dV H B (aS a))/\aG w H)
 case first=>
  by_cases y:f=1
  ·have ha:a=[]:=enl om;subst ha;subst y;go_wp2_with fail;refine(cC [] (some (Y l d)) 0 w (.inl rfl) sm).mono ?_;rintro e w1 ⟨⟨K,rfl,c⟩,h⟩;have g:=aI c;clear c;go_wp2;go_meet;exact⟨rfl,g,h⟩
  ·go_wp2_with fail;refine(cC a (some (Y l (d+1))) (f-1) w o om).mono ?_;rintro e w1 ⟨⟨K,rfl,c⟩,h⟩;have g:=aI c;clear c;go_wp2;go_meet;exact⟨rfl,g,h⟩
 case rest=>
  obtain⟨rfl,HV,m⟩:=hcut;replace p:=p.zL m;replace u:=ctq m u;replace j:=j.zL m;have q:=aI m;clear o m;by_cases C:ln a=0
  ·have k:Hid (aX s (n::a)=(s,rC s.b)):=by
    rw[enl C,Hid,aX,F];rfl
   rw[C];go_wp2_with fail;refine(VG D wc s b ta G A j z).mono ?_;rintro e w2 ⟨rfl,i⟩;have v:=j.zL i;have t:=aI (aE q.oQ i);clear i j q;go_wp2;go_ret;exact⟨⟨_,_,_,by rw[k.oQ];exact v⟩,by rw[k.oQ];rfl,aU.below t.oQ⟩
  ·have k:Hid (aX s (n::a)=(s,dR)):=by
    obtain⟨x,r,rfl⟩:=List.exists_cons_of_length_pos (by omega:0<ln a);rw[Hid,aX,F];rfl
   have hl':((ln a:Int)+1==1)=false:=by rw[bfn];omega
   go_wp2;go_ret;exact⟨⟨_,_,_,by rw[k.oQ];exact j⟩,by rw[k.oQ];rfl,aU.below q.oQ⟩
variable {a:List Ba}
theorem uR {s:St}(h:¬(ln a)=3):gH s a=(s,dR):=by
 unfold gH;split;·simp at h
 ·rfl
theorem SD (D:Nat) (w:Wd) (s:St) (b:Bk) (ta:Oa) (K G:Nat) (l:o9 D w s b ta K) (C:jF G s) (_hkk:G<=1000) (n:Ba) (a:List Ba) (i c d:Nat) (o:Xs 1 eE w (some (Y i c)) (n::a)) (r:ln a+1<=d) (hlen:ln a+1<=1048570) (F:∀x∈n::a,x.size<=1048575) (J:n.toList=pV):
 aW 23 #[E D 0,.slice (some (Y i c)) (ln a+1) d] w λe w'=>RO D w (aX s (n::a)) e w':=by
 have z:=iC o 0 n rfl;rw[naz]at z;have p:Xs 1 eE w (some (Y i (c+1))) a:=jN o 1 [n] _ [] sm rfl;go_enter Tryz.func23,Tryz.ntmps23;go_upto_region 1 with fail;go_cut [5,6] (λP Q L=>Q=.bool (j7 a)/\Hid (j7 a=true->∃H N,P=.slice H (ln (aS a)) N/\Xs 1 dV L H (aS a))/\aG w L)
 case first=>
  by_cases A:d=1
  ·have ha:a=[]:=enl om;subst ha;subst A;go_wp2_with fail;refine(cC [] (some (Y i c)) 0 w (.inl rfl) sm).mono ?_;rintro e w1 ⟨⟨O,rfl,f⟩,h⟩;have g:=aI f;clear f;go_wp2;go_meet;exact⟨rfl,g,h⟩
  ·go_wp2_with fail;refine(cC a (some (Y i (c+1))) (d-1) w p om).mono ?_;rintro e w1 ⟨⟨O,rfl,f⟩,h⟩;have g:=aI f;clear f;go_wp2;go_meet;exact⟨rfl,g,h⟩
 case rest=>
  obtain⟨rfl,HV,k⟩:=hcut;replace o:=o.zL k;replace z:=ctq k z;replace l:=l.zL k;have u:=aI k;clear p k;by_cases t:ln a=3
  ·have j:Hid (aX s (n::a)=gH s a):=by rw[Hid,aX,J];rfl
   have B:((ln a:Int)+1==4)=true:=by rw[beq_iff_eq];omega
   have M:=aI t;clear t;go_wp2_with fail;refine(OX D wc s b ta K G l C (n::a) i c d o (by simp[M.oQ]) (by simpa using r) F).mono ?_;rintro e w2 ⟨⟨b2,ta2,tc2,m⟩,rfl,q⟩;have v:=aI ((aU.below u.oQ).trans q);have y:=aI m;clear q l u m;go_wp2;go_ret;exact⟨⟨_,_,_,by rw[j.oQ];exact y.oQ⟩,by rw[j.oQ];rfl,v.oQ⟩
  ·have j:Hid (aX s (n::a)=(s,dR)):=by rw[Hid,←uR (s:=s) t,aX,J];rfl
   have B:((ln a:Int)+1==4)=false:=by rw[bfn];omega
   clear t;go_wp2;go_ret;exact⟨⟨_,_,_,by rw[j.oQ];exact l⟩,by rw[j.oQ];rfl,aU.below u.oQ⟩
theorem xR {s:St}(h:¬8<=ln a):k8 s a=(s,dR):=by
 unfold k8;split;·simp at h
 ·rfl
theorem YL (D:Nat) (w:Wd) (s:St) (b:Bk) (ta:Oa) (L H:Nat) (l:o9 D w s b ta L) (F:jF H s) (_hkk:H<=1000) (n:Ba) (a:List Ba) (i c d:Nat) (o:Xs 1 eE w (some (Y i c)) (n::a)) (r:ln a+1<=d) (t:ln a+1<=1048570) (G:∀x∈n::a,x.size<=1048575) (K:n.toList=vU):
 aW 23 #[E D 0,.slice (some (Y i c)) (ln a+1) d] w λe w'=>RO D w (aX s (n::a)) e w':=by
 have A:=iC o 0 n rfl;rw[naz]at A;have p:Xs 1 eE w (some (Y i (c+1))) a:=jN o 1 [n] _ [] sm rfl;go_enter Tryz.func23,Tryz.ntmps23;go_upto_region 1 with fail;go_cut [5,6] (λQ R M=>R=.bool (j7 a)/\Hid (j7 a=true->∃J O,Q=.slice J (ln (aS a)) O/\Xs 1 dV M J (aS a))/\aG w M)
 case first=>
  by_cases B:d=1
  ·have ha:a=[]:=enl om;subst ha;subst B;go_wp2_with fail;refine(cC [] (some (Y i c)) 0 w (.inl rfl) sm).mono ?_;rintro e w1 ⟨⟨P,rfl,f⟩,h⟩;have g:=aI f;clear f;go_wp2;go_meet;exact⟨rfl,g,h⟩
  ·go_wp2_with fail;refine(cC a (some (Y i (c+1))) (d-1) w p om).mono ?_;rintro e w1 ⟨⟨P,rfl,f⟩,h⟩;have g:=aI f;clear f;go_wp2;go_meet;exact⟨rfl,g,h⟩
 case rest=>
  obtain⟨rfl,HV,k⟩:=hcut;replace o:=o.zL k;replace A:=ctq k A;replace l:=l.zL k;have v:=aI k;clear p k;by_cases u:8<=ln a
  ·have j:Hid (aX s (n::a)=k8 s a):=by rw[Hid,aX,K];rfl
   have C:decide ((8:Int)<(ln a:Int)+1)=true:=by rw[dte];omega
   have N:=aI u;clear u;go_wp2_with fail;refine(UE D wc s b ta L H l F (n::a) i c d o (by have:=N.oQ;simp;omega) (by simpa using r) (by simpa using t) G).mono ?_;rintro e w2 ⟨⟨b2,ta2,tc2,m⟩,rfl,q⟩;have y:=aI ((aU.below v.oQ).trans q);have z:=aI m;clear q l v m;go_wp2;go_ret;exact⟨⟨_,_,_,by rw[j.oQ];exact z.oQ⟩,by rw[j.oQ];rfl,y.oQ⟩
  ·have j:Hid (aX s (n::a)=(s,dR)):=by rw[Hid,←xR (s:=s) u,aX,K];rfl
   have C:decide ((8:Int)<(ln a:Int)+1)=false:=by rw[dfi];omega
   clear u;go_wp2;go_ret;exact⟨⟨_,_,_,by rw[j.oQ];exact l⟩,by rw[j.oQ];rfl,aU.below v.oQ⟩
theorem XF (D:Nat) (w:Wd) (s:St) (b:Bk) (ta:Oa) (L G:Nat) (A:o9 D w s b ta L) (_hok:jF G s) (_hkk:G<=1000) (n:Ba) (a:List Ba) (t o p:Nat) (y:Xs 1 eE w (some (Y t o)) (n::a)) (hcap:ln a+1<=p) (hlen:ln a+1<=1048570) (_hsz:∀x∈n::a,x.size<=1048575) (d:¬n.toList=pV) (j:¬n.toList=vU) (k:¬n.toList=JD) (c:¬n.toList=pJ) (i:¬n.toList=uZ) (l:¬n.toList=GH) (h:¬n.toList=wB) (g:¬n.toList=vI) (f:¬n.toList=wT):
 aW 23 #[E D 0,.slice (some (Y t o)) (ln a+1) p] w λe w'=>RO D w (aX s (n::a)) e w':=by
 have z:=iC y 0 n rfl;rw[naz]at z;have v:Xs 1 eE w (some (Y t (o+1))) a:=jN y 1 [n] _ [] sm rfl;go_enter Tryz.func23,Tryz.ntmps23;go_upto_region 1 with fail;go_cut [5,6] (λN O H=>O=.bool (j7 a)/\Hid (j7 a=true->∃F K,N=.slice F (ln (aS a)) K/\Xs 1 dV H F (aS a))/\aG w H)
 case first=>
  by_cases B:p=1
  ·have ha:a=[]:=enl om;subst ha;subst B;go_wp2_with fail;refine(cC [] (some (Y t o)) 0 w (.inl rfl) sm).mono ?_;rintro e w1 ⟨⟨M,rfl,m⟩,r⟩;have q:=aI m;clear m;go_wp2;go_meet;exact⟨rfl,q,r⟩
  ·go_wp2_with fail;refine(cC a (some (Y t (o+1))) (p-1) w v om).mono ?_;rintro e w1 ⟨⟨M,rfl,m⟩,r⟩;have q:=aI m;clear m;go_wp2;go_meet;exact⟨rfl,q,r⟩
 case rest=>
  obtain⟨rfl,HV,u⟩:=hcut;replace y:=y.zL u;replace z:=ctq u z;replace A:=A.zL u;have J:=aI u;clear v u
  have C:Hid (aX s (n::a)=(s,dR)):=by
   rw[Hid,aX,if_neg d,if_neg j,if_neg k,if_neg c,if_neg i,if_neg l,if_neg h,if_neg g,if_neg f]
  have nField:(n.toList==[102,105,101,108,100])=false:=by rw[bfn];exact d
  have nWish:(n.toList==[119,105,115,104])=false:=by rw[bfn];exact j
  have nBox:(n.toList==[98,111,120])=false:=by rw[bfn];exact k
  have nAmend:(n.toList==[97,109,101,110,100])=false:=by rw[bfn];exact c
  have nTook:(n.toList==[116,111,111,107])=false:=by rw[bfn];exact i
  have nRef:(n.toList==[114,101,102,117,115,101,100])=false:=by rw[bfn];exact l
  have nTick:(n.toList==[116,105,99,107])=false:=by rw[bfn];exact h
  have nHeld:(n.toList==[104,101,108,100])=false:=by rw[bfn];exact g
  have nBars:(n.toList==[98,97,114,115])=false:=by rw[bfn];exact f
  clear d j k c i l h g f;go_wp2;go_ret;exact⟨⟨_,_,_,by rw[C.oQ];exact A⟩,by rw[C.oQ];rfl,aU.below J.oQ⟩
variable {D e a:Nat}{b f:Bk}{h g:Va}{nm:Ba}{c:Int}
def JQ (D:Nat)(b:Bk)(vw:Value)(bl off:Nat)(nm:ByteArray)(tv:Value)(s':Bk)(c:Int)(j:Nat)(v:Value)(w:World):Prop:=
 match j with
 |0|1|2|3=>v=(E D 0)
 |4=>v=b.val
 |5=>v=vw
 |6=>v=(E bl (off+1))
 |7=>v=.string nm
 |8=>v=tv
 |9=>∃b':Bk,v=.tuple #[b'.val,I c]/\eI (λk=>k=D) w s' b'
 |10=>∃b':Bk,v=b'.val/\eI (λk=>k=D) w s' b'
 |11=>v=I c
 |_=>True
theorem JQ.zL (j:Nat)(v:Va)(w w':Wd)(d:JQ D b h e a nm g f c j v w)(l:aG w w'):JQ D b h e a nm g f c j v w':=by
 unfold JQ at*;split at d
 all_goals first
  |exact d
  |(obtain⟨b',i,k⟩:=d;exact⟨b',i,k.zL l⟩)
theorem VD (D:Nat) (w:Wd) (s:St) (b:Bk) (ta:Oa) (tc kk:Nat) (G:o9 D w s b ta tc) (zd:jF kk s) (hkk:kk<=1000) (n:Ba) (a:List Ba) (v d i:Nat) (J:Xs 1 eE w (some (Y v d)) (n::a)) (hcap:ln a+1<=i) (hlen:ln a+1<=1048570) (_hsz:∀x∈n::a,x.size<=1048575) (hn:n.toList=pJ):
 aW 23 #[E D 0,.slice (some (Y v d)) (ln a+1) i] w λe w'=>RO D w (aX s (n::a)) e w':=by
 have c0:=iC J 0 n rfl;rw[naz]at c0;have Z:Xs 1 eE w (some (Y v (d+1))) a:=jN J 1 [n] _ [] sm rfl;go_enter Tryz.func23,Tryz.ntmps23;go_upto_region 1 with fail;go_cut [5,6] (λv5 v6 wx=>v6=.bool (j7 a)/\Hid (j7 a=true->∃a' c',v5=.slice a' (ln (aS a)) c'/\Xs 1 dV wx a' (aS a))/\aG w wx)
 case first=>
  by_cases A:i=1
  ·have ha:a=[]:=enl om;subst ha;subst A;go_wp2_with fail;refine(cC [] (some (Y v d)) 0 w (.inl rfl) sm).mono ?_;rintro e w1 ⟨⟨v1,rfl,r⟩,H⟩;have F:=aI r;clear r;go_wp2;go_meet;exact⟨rfl,F,H⟩
  ·go_wp2_with fail;refine(cC a (some (Y v (d+1))) (i-1) w Z om).mono ?_;rintro e w1 ⟨⟨v1,rfl,r⟩,H⟩;have F:=aI r;clear r;go_wp2;go_meet;exact⟨rfl,F,H⟩
 case rest=>
  obtain⟨rfl,HV,T⟩:=hcut;replace J:=J.zL T;replace c0:=ctq T c0;replace G:=G.zL T;have HN:=aI T;clear Z T;by_cases hl:ln a=1
  ·obtain⟨nm,rfl⟩:∃nm,a=[nm]:=leo.1 hl;have P:=iC J 1 nm rfl;clear J hl HV;obtain⟨zb,A⟩:=CD s.b nm s.t;have N:Hid (aX s [n,nm]=(⟨dN s.b s.b.now (gA s.b nm s.t),[]⟩,jC (dX s.b nm s.t))):=by rw[Hid,aX,hn];rfl
   obtain⟨c,B⟩:=cI (dX s.b nm s.t);have M:Hid (aX s [n,nm]=(⟨dN s.b s.b.now (gA s.b nm s.t),[]⟩,jC c)):=by rw[←B];exact N.oQ
   rw[B]at zb A;have zf:=aI B;clear B N;have m:aG wc (wc.alloc (.cells #[] 91)):=aC (br _ _) _;have f:=G.zL m;obtain⟨W0,W⟩:=cI (wc.alloc (.cells #[] 91));rw[W]at f m;obtain⟨q0,q1,q2,q3⟩:=G.c;obtain⟨y0,y1,y2,y3⟩:=f.c;have yf:=f.fz;have l:o9 D (W0.setCell (Y D 3) (sl wc.heap.size 0 0 0)) ⟨s.b,[]⟩ b (some (ya wc 0)) 0:=f.hand (t':=[]) (λ_ _=>.inl rfl);have z:aU (λk=>k=D) W0 (W0.setCell (Y D 3) (sl wc.heap.size 0 0 0)):=(aU.refl (λk=>k=D) W0).set (g:=D) rfl _ _;have O:Hid (jG (W0.setCell (Y D 3) (sl wc.heap.size 0 0 0)) ta s.t):=f.t _ z;have L:=aI (((aU.below HN.oQ).trans (aU.below m)).trans z);have S:v≠D:=G.ne P;have Q:=ctq m P;replace P:=z.cell (p:=(Y v (d+1))) S Q;clear f m z;go_upto_region 12 with fail;obtain⟨W1,X⟩:=cI (W0.setCell (Y D 3) (sl wc.heap.size 0 0 0));rw[X]at l O L P ⊢;clear X W y0 y1 y2 y3 yf q0 q1 q2 q3 G S Q;refine pG 12 [some 100,some 101,some 102,some 103,some 104,some 105,some 106,some 107,some 108,some 109,some 110,some 111] (JQ D b (sl v d 2 i) v d nm (.slice ta (ln s.t) tc) (dN s.b s.b.now (gA s.b nm s.t)) c) JQ.zL ?step ?fin
   case step=>
    intro ii o vs w' zi zc y u;obtain⟨z0z,z1z,z2z,z3z⟩:=(l.zL y).c;have z4z:=ctq y P;match ii,zi with
    |2,_|3,_|4,_|6,_|7,_=>
     cases zc;simp[Region.binds,JQ]at u;simp only[aD,Act.put,u];gi_wp2;exact⟨_,by simp[aH,u],rfl,br _ _⟩
    |0,_|1,_|5,_|8,_=>
     cases zc;gi_wp2;exact⟨_,uhx,rfl,br _ _⟩
    |9,_=>
     cases zc;simp[Region.binds,JQ]at u;simp only[aD,Act.put,u];gi_wp2_with fail;refine tqx ?_;refine(cw.2 (QF (S':=λk=>k=D) (l.zL y).b zd.b nm s.t ta tc (O.oQ.zL y) (by have:=zd.t;omega) (λk e=>by rw[e];exact iB (l.zL y).o))).mono ?_;rintro e w5 ⟨⟨b',rfl,j⟩,zh⟩;have C:=aI j;clear j;rw[zf.oQ];gi_wp2;exact⟨_,by simp[aH,u],⟨b',rfl,C.oQ⟩,zh⟩
    |10,_=>
     cases zc;obtain⟨b',R,j⟩:=Zq u 9;have C:=aI j;clear u j;simp only[aD,Act.put,R];gi_wp2;exact⟨_,by simp[aH,R],⟨b',rfl,C.oQ⟩,br _ _⟩
    |11,_=>
     cases zc;obtain⟨b',R,j⟩:=Zq u 9;have C:=aI j;clear u j;simp only[aD,Act.put,R];gi_wp2;exact⟨_,by simp[aH,R],rfl,br _ _⟩
    |q+12,h=>omega
   case fin=>
    intro vs w8 y hp;have e0:vs 0=(E D 0):=hp 0 dz;obtain⟨b',eb,j⟩:=hp 10 dz;have ec:vs 11=I c:=hp 11 dz;have U:=l.zL y;have K:=aI (L.oQ.trans (aU.below y));have C:=aI j;clear hp y j;simp only[lds,ldz,aD,Act.put];rw[e0,eb,ec];clear e0 eb ec;generalize vs=vs;gi_wp2_with fail;refine tqx ?_;refine(cw.2 (sM D w8 _ b _ _ U _ b' C.oQ c zb A)).mono ?_;rintro e w9 ⟨⟨b9,ta9,tc9,V⟩,rfl,za⟩;have zg:=aI V;have ze:=aI (K.oQ.trans za);clear V za K C U;gi_wp2_with fail;go_wp2;go_ret;exact⟨⟨_,_,_,by rw[M.oQ];exact zg.oQ⟩,by rw[M.oQ];rfl,ze.oQ⟩
  ·have M:Hid (aX s (n::a)=(s,dR)):=by rw[Hid,←BR (s:=s) hl,aX,hn];rfl
   have hl':((ln a:Int)+1==2)=false:=by rw[bfn];omega
   clear hl;go_wp2;go_ret;exact⟨⟨_,_,_,by rw[M.oQ];exact G⟩,by rw[M.oQ];rfl,aU.below HN.oQ⟩
variable {n:Ba}{g:Bool}
def LM (D:Nat)(b:Bk)(vw:Value)(bl off:Nat)(nm:ByteArray)(n:ByteArray)(tk:Bool)(s':Bk)(c:Int)(j:Nat)(v:Value)(w:World):Prop:=
 match j with
 |0|1|2|3=>v=(E D 0)
 |4=>v=b.val
 |5|8=>v=vw
 |6=>v=(E bl (off+1))
 |7=>v=.string nm
 |9=>v=(E bl off)
 |10=>v=.string n
 |11=>v=.bool tk
 |12=>∃b':Bk,v=.tuple #[b'.val,I c]/\eI (λk=>k=D) w s' b'
 |13=>∃b':Bk,v=b'.val/\eI (λk=>k=D) w s' b'
 |14=>v=I c
 |_=>True
theorem LM.zL (j:Nat)(v:Va)(w w':Wd)(d:LM D b h e a nm n g f c j v w)(l:aG w w'):LM D b h e a nm n g f c j v w':=by
 unfold LM at*;split at d
 all_goals first
  |exact d
  |(obtain⟨b',i,k⟩:=d;exact⟨b',i,k.zL l⟩)
theorem WN (D:Nat) (w:Wd) (s:St) (b:Bk) (ta:Oa) (tc kk:Nat) (z:o9 D w s b ta tc) (zb:jF kk s) (_hkk:kk<=1000) (n:Ba) (a:List Ba) (y d f:Nat) (B:Xs 1 eE w (some (Y y d)) (n::a)) (hcap:ln a+1<=f) (hlen:ln a+1<=1048570) (_hsz:∀x∈n::a,x.size<=1048575) (hn:n.toList=uZ):
 aW 23 #[E D 0,.slice (some (Y y d)) (ln a+1) f] w λe w'=>RO D w (aX s (n::a)) e w':=by
 have Q:=iC B 0 n rfl;rw[naz]at Q;have L:Xs 1 eE w (some (Y y (d+1))) a:=jN B 1 [n] _ [] sm rfl;go_enter Tryz.func23,Tryz.ntmps23;go_upto_region 1 with fail;go_cut [5,6] (λv5 v6 wx=>v6=.bool (j7 a)/\Hid (j7 a=true->∃a' c',v5=.slice a' (ln (aS a)) c'/\Xs 1 dV wx a' (aS a))/\aG w wx)
 case first=>
  by_cases p:f=1
  ·have ha:a=[]:=enl om;subst ha;subst p;go_wp2_with fail;refine(cC [] (some (Y y d)) 0 w (.inl rfl) sm).mono ?_;rintro e w1 ⟨⟨v1,rfl,j⟩,A⟩;have v:=aI j;clear j;go_wp2;go_meet;exact⟨rfl,v,A⟩
  ·go_wp2_with fail;refine(cC a (some (Y y (d+1))) (f-1) w L om).mono ?_;rintro e w1 ⟨⟨v1,rfl,j⟩,A⟩;have v:=aI j;clear j;go_wp2;go_meet;exact⟨rfl,v,A⟩
 case rest=>
  obtain⟨rfl,HV,H⟩:=hcut;replace B:=B.zL H;replace Q:=ctq H Q;replace z:=z.zL H;have W:=aI H;clear L H;by_cases R:ln a=1
  ·obtain⟨nm,rfl⟩:∃nm,a=[nm]:=leo.1 R;have c1:=iC B 1 nm rfl;clear B R HV;obtain⟨N,p⟩:=pC s.b nm;have G:Hid (aX s [n,nm]=(⟨dN s.b s.b.now (dI s.b nm true),s.t⟩,jC (cG s.b nm))):=by rw[Hid,aX,hn];rfl
   obtain⟨c,r⟩:=cI (cG s.b nm);have F:Hid (aX s [n,nm]=(⟨dN s.b s.b.now (dI s.b nm true),s.t⟩,jC c)):=by rw[←r];exact G.oQ
   rw[r]at N p;have V:=aI r;have U:Hid (aU (λk=>k=D) w wc):=aU.below W.oQ;clear r G W;go_upto_region 14 with fail;refine pG 15 [some 129,some 130,some 131,some 132,some 133,some 134,some 135,some 136,some 137,some 138,some 139,some 140,some 141,some 142,some 143] (LM D b (sl y d 2 f) y d nm n true (dN s.b s.b.now (dI s.b nm true)) c) LM.zL ?step ?fin
   case step=>
    intro ii o P w' za O m l;obtain⟨z0z,z1z,z2z,z3z⟩:=(z.zL m).c;have z4z:=ctq m c1;have z5z:=ctq m Q;match ii,za with
    |2,_|3,_|4,_|6,_|7,_|9,_|10,_|11,_=>
     cases O;simp[Region.binds,LM]at l;simp only[aD,Act.put,l];gi_wp2;exact⟨_,by simp[aH,l],rfl,br _ _⟩
    |0,_|1,_|5,_|8,_=>
     cases O;gi_wp2;exact⟨_,uhx,rfl,br _ _⟩
    |12,_=>
     cases O;simp[Region.binds,LM]at l;simp only[aD,Act.put,l];gi_wp2_with fail;refine tqx ?_;refine(cw.2 (FJ (S':=λk=>k=D) (z.zL m).b zb.b nm true (λk e=>by rw[e];exact iB (z.zL m).o))).mono ?_;rintro e w5 ⟨⟨b',rfl,i⟩,Z⟩;have u:=aI i;clear i;rw[V.oQ];gi_wp2;exact⟨_,by simp[aH,l],⟨b',rfl,u.oQ⟩,Z⟩
    |13,_=>
     cases O;obtain⟨b',g,i⟩:=Zq l 12;have u:=aI i;clear l i;simp only[aD,Act.put,g];gi_wp2;exact⟨_,by simp[aH,g],⟨b',rfl,u.oQ⟩,br _ _⟩
    |14,_=>
     cases O;obtain⟨b',g,i⟩:=Zq l 12;have u:=aI i;clear l i;simp only[aD,Act.put,g];gi_wp2;exact⟨_,by simp[aH,g],rfl,br _ _⟩
    |q+15,h=>omega
   case fin=>
    intro P w8 m S;have e0:P 0=(E D 0):=S 0 dz;obtain⟨b',eb,i⟩:=S 13 dz;have ec:P 14=I c:=S 14 dz;have J:=z.zL m;have C:=aI (U.oQ.trans (aU.below m));have u:=aI i;clear S m i;simp only[lds,ldz,aD,Act.put];rw[e0,eb,ec];clear e0 eb ec;generalize P=P;gi_wp2_with fail;refine tqx ?_;refine(cw.2 (sM D w8 _ b _ _ J _ b' u.oQ c N p)).mono ?_;rintro e w9 ⟨⟨b9,ta9,tc9,K⟩,rfl,M⟩;have X:=aI K;have T:=aI (C.oQ.trans M);clear K M C u J;gi_wp2_with fail;go_wp2;go_ret;exact⟨⟨_,_,_,by rw[F.oQ];exact X.oQ⟩,by rw[F.oQ];rfl,T.oQ⟩
  ·have F:Hid (aX s (n::a)=(s,dR)):=by rw[Hid,←xV (took:=true) (s:=s) R,aX,hn];rfl
   have hl':((ln a:Int)+1==2)=false:=by rw[bfn];omega
   clear R;go_wp2;go_ret;exact⟨⟨_,_,_,by rw[F.oQ];exact z⟩,by rw[F.oQ];rfl,aU.below W.oQ⟩
variable {g d:Nat}{e:Bk}{f:Va}{x:Int}
def MA (D:Nat)(b:Bk)(vn:Value)(g oo:Nat)(x:Int)(s':Bk)(c:Int)(j:Nat)(v:Value)(w:World):Prop:=
 match j with
 |0|1|2|3=>v=(E D 0)
 |4=>v=b.val
 |5=>v=vn
 |6=>v=(E g oo)
 |7=>v=I x
 |8=>∃b':Bk,v=.tuple #[b'.val,I c]/\eI (λk=>k=D) w s' b'
 |9=>∃b':Bk,v=b'.val/\eI (λk=>k=D) w s' b'
 |10=>v=I c
 |_=>True
theorem MA.zL (j:Nat)(v:Va)(w w':Wd)(a:MA D b f g d x e c j v w)(k:aG w w'):MA D b f g d x e c j v w':=by
 unfold MA at*;split at a
 all_goals first
  |exact a
  |(obtain⟨b',h,i⟩:=a;exact⟨b',h,i.zL k⟩)
theorem WM (D:Nat) (w:Wd) (s:St) (b:Bk) (ta:Oa) (tc kk:Nat) (y:o9 D w s b ta tc) (ze:jF kk s) (_hkk:kk<=1000) (n:Ba) (a:List Ba) (K j m:Nat) (P:Xs 1 eE w (some (Y K j)) (n::a)) (hcap:ln a+1<=m) (hlen:ln a+1<=1048570) (_hsz:∀x∈n::a,x.size<=1048575) (hn:n.toList=wB):
 aW 23 #[E D 0,.slice (some (Y K j)) (ln a+1) m] w λe w'=>RO D w (aX s (n::a)) e w':=by
 have c0:=iC P 0 n rfl;rw[naz]at c0;have Q:Xs 1 eE w (some (Y K (j+1))) a:=jN P 1 [n] _ [] sm rfl;go_enter Tryz.func23,Tryz.ntmps23;go_upto_region 1 with fail;go_cut [5,6] (λv5 v6 wx=>v6=.bool (j7 a)/\Hid (j7 a=true->∃a' c',v5=.slice a' (ln (aS a)) c'/\Xs 1 dV wx a' (aS a))/\aG w wx)
 case first=>
  by_cases p:m=1
  ·have ha:a=[]:=enl om;subst ha;subst p;go_wp2_with fail;refine(cC [] (some (Y K j)) 0 w (.inl rfl) sm).mono ?_;rintro e w1 ⟨⟨v1,rfl,i⟩,F⟩;have C:=aI i;clear i;go_wp2;go_meet;exact⟨rfl,C,F⟩
  ·go_wp2_with fail;refine(cC a (some (Y K (j+1))) (m-1) w Q om).mono ?_;rintro e w1 ⟨⟨v1,rfl,i⟩,F⟩;have C:=aI i;clear i;go_wp2;go_meet;exact⟨rfl,C,F⟩
 case rest=>
  obtain⟨rfl,HV,M⟩:=hcut;replace P:=P.zL M;replace c0:=ctq M c0;replace y:=y.zL M;have V:=aI M;clear Q M;by_cases z:ln a=1/\j7 a=true
  ·obtain⟨z,d⟩:=z;obtain⟨G,rfl⟩:∃nm,a=[nm]:=leo.1 z;obtain⟨a1,c1,rfl,zf⟩:=HV.oQ d;rcases zf with h|⟨g,oo,rfl,T⟩;·simp[aS]at h
   have i0:wc.cell? (Y g oo)=some (I (aV G)):=by have:=T 0 (by simp[aS]) 0 _ rfl;simpa[aS]using this
   have e5:ln (aS [G])=1:=rfl;rw[e5,d];have AR:0<=aV G:=by simpa[j7]using d
   obtain⟨x,hx⟩:=bQ (aV G);obtain⟨S,p⟩:=AK s.b x
   have J:Hid (aX s [n,G]=(⟨dN s.b (fK s.b x) (eU s.b x),s.t⟩,jC (cX s.b x))):=by
    rw[Hid,aX,hn,hx];show mZ s [G]=_;rw[mZ,if_pos AR]
   rw[←hx]at i0;obtain⟨c,r⟩:=cI (cX s.b x);have B:Hid (aX s [n,G]=(⟨dN s.b (fK s.b x) (eU s.b x),s.t⟩,jC c)):=by rw[←r];exact J.oQ
   rw[r]at S p;have za:=aI r;have Z:Hid (aU (λk=>k=D) w wc):=aU.below V.oQ;clear r J V hx AR e5 T d z HV P;go_upto_region 16 with fail;refine pG 11 [some 158,some 159,some 160,some 161,some 162,some 163,some 164,some 165,some 166,some 167,some 168] (MA D b (sl g oo 1 c1) g oo x (dN s.b (fK s.b x) (eU s.b x)) c) MA.zL ?step ?fin
   case step=>
    intro ii o U w' zd d v l;obtain⟨z0z,z1z,z2z,z3z⟩:=(y.zL v).c;have z4z:=ctq v i0;match ii,zd with
    |2,_|3,_|4,_|6,_|7,_=>
     cases d;simp[Region.binds,MA]at l;simp only[aD,Act.put,l];gi_wp2;exact⟨_,by simp[aH,l],rfl,br _ _⟩
    |0,_|1,_|5,_=>
     cases d;gi_wp2;exact⟨_,uhx,rfl,br _ _⟩
    |8,_=>
     cases d;simp[Region.binds,MA]at l;simp only[aD,Act.put,l];gi_wp2_with fail;refine tqx ?_;refine(cw.2 (ST (S':=λk=>k=D) (y.zL v).b ze.b x (λk e=>by rw[e];exact iB (y.zL v).o))).mono ?_;rintro e w5 ⟨⟨b',rfl,f⟩,zc⟩;have A:=aI f;clear f;rw[za.oQ];gi_wp2;exact⟨_,by simp[aH,l],⟨b',rfl,A.oQ⟩,zc⟩
    |9,_=>
     cases d;obtain⟨b',L,f⟩:=Zq l 8;have A:=aI f;clear l f;simp only[aD,Act.put,L];gi_wp2;exact⟨_,by simp[aH,L],⟨b',rfl,A.oQ⟩,br _ _⟩
    |10,_=>
     cases d;obtain⟨b',L,f⟩:=Zq l 8;have A:=aI f;clear l f;simp only[aD,Act.put,L];gi_wp2;exact⟨_,by simp[aH,L],rfl,br _ _⟩
    |q+11,h=>omega
   case fin=>
    intro U w8 v W;have e0:U 0=(E D 0):=W 0 dz;obtain⟨b',eb,f⟩:=W 9 dz;have ec:U 10=I c:=W 10 dz;have N:=y.zL v;have H:=aI (Z.oQ.trans (aU.below v));have A:=aI f;clear W v f;simp only[lds,ldz,aD,Act.put];rw[e0,eb,ec];clear e0 eb ec;generalize U=U;gi_wp2_with fail;refine tqx ?_;refine(cw.2 (sM D w8 _ b _ _ N _ b' A.oQ c S p)).mono ?_;rintro e w9 ⟨⟨b9,ta9,tc9,O⟩,rfl,R⟩;have zb:=aI O;have X:=aI (H.oQ.trans R);clear O R H A N;gi_wp2_with fail;go_wp2;go_ret;exact⟨⟨_,_,_,by rw[B.oQ];exact zb.oQ⟩,by rw[B.oQ];rfl,X.oQ⟩
  ·have B:Hid (aX s (n::a)=(s,dR)):=by rw[Hid,←ET (s:=s) z,aX,hn];rfl
   by_cases u:ln a=1
   ·have d:j7 a=false:=by
     cases e:j7 a with
     |false=>rfl
     |true=>exact absurd ⟨u,e⟩ z
    rw[d,u];clear z u HV;go_wp2;go_ret;exact⟨⟨_,_,_,by rw[B.oQ];exact y⟩,by rw[B.oQ];rfl,aU.below V.oQ⟩
   ·have hl':((ln a:Int)+1==2)=false:=by rw[bfn];omega
    clear z u;go_wp2;go_ret;exact⟨⟨_,_,_,by rw[B.oQ];exact y⟩,by rw[B.oQ];rfl,aU.below V.oQ⟩
variable {e:Nat}{f:Bk}{g:Bool}
def MZ (D:Nat)(b:Bk)(vw:Value)(bl off:Nat)(nm:ByteArray)(n:ByteArray)(tk:Bool)(s':Bk)(c:Int)(j:Nat)(v:Value)(w:World):Prop:=
 match j with
 |0|1|2|3=>v=(E D 0)
 |4=>v=b.val
 |5|8=>v=vw
 |6=>v=(E bl (off+1))
 |7=>v=.string nm
 |9=>v=(E bl off)
 |10=>v=.string n
 |11=>v=.bool tk
 |12=>∃b':Bk,v=.tuple #[b'.val,I c]/\eI (λk=>k=D) w s' b'
 |13=>∃b':Bk,v=b'.val/\eI (λk=>k=D) w s' b'
 |14=>v=I c
 |_=>True
theorem MZ.zL (j:Nat)(v:Va)(w w':Wd)(d:MZ D b h e a nm n g f c j v w)(l:aG w w'):MZ D b h e a nm n g f c j v w':=by
 unfold MZ at*;split at d
 all_goals first
  |exact d
  |(obtain⟨b',i,k⟩:=d;exact⟨b',i,k.zL l⟩)
theorem aAA (D:Nat) (w:Wd) (s:St) (b:Bk) (ta:Oa) (tc kk:Nat) (z:o9 D w s b ta tc) (zb:jF kk s) (_hkk:kk<=1000) (n:Ba) (a:List Ba) (y d f:Nat) (B:Xs 1 eE w (some (Y y d)) (n::a)) (hcap:ln a+1<=f) (hlen:ln a+1<=1048570) (_hsz:∀x∈n::a,x.size<=1048575) (hn:n.toList=GH):
 aW 23 #[E D 0,.slice (some (Y y d)) (ln a+1) f] w λe w'=>RO D w (aX s (n::a)) e w':=by
 have Q:=iC B 0 n rfl;rw[naz]at Q;have L:Xs 1 eE w (some (Y y (d+1))) a:=jN B 1 [n] _ [] sm rfl;go_enter Tryz.func23,Tryz.ntmps23;go_upto_region 1 with fail;go_cut [5,6] (λv5 v6 wx=>v6=.bool (j7 a)/\Hid (j7 a=true->∃a' c',v5=.slice a' (ln (aS a)) c'/\Xs 1 dV wx a' (aS a))/\aG w wx)
 case first=>
  by_cases p:f=1
  ·have ha:a=[]:=enl om;subst ha;subst p;go_wp2_with fail;refine(cC [] (some (Y y d)) 0 w (.inl rfl) sm).mono ?_;rintro e w1 ⟨⟨v1,rfl,j⟩,A⟩;have v:=aI j;clear j;go_wp2;go_meet;exact⟨rfl,v,A⟩
  ·go_wp2_with fail;refine(cC a (some (Y y (d+1))) (f-1) w L om).mono ?_;rintro e w1 ⟨⟨v1,rfl,j⟩,A⟩;have v:=aI j;clear j;go_wp2;go_meet;exact⟨rfl,v,A⟩
 case rest=>
  obtain⟨rfl,HV,H⟩:=hcut;replace B:=B.zL H;replace Q:=ctq H Q;replace z:=z.zL H;have W:=aI H;clear L H;by_cases R:ln a=1
  ·obtain⟨nm,rfl⟩:∃nm,a=[nm]:=leo.1 R;have c1:=iC B 1 nm rfl;clear B R HV;obtain⟨N,p⟩:=pC s.b nm;have G:Hid (aX s [n,nm]=(⟨dN s.b s.b.now (dI s.b nm false),s.t⟩,jC (cG s.b nm))):=by rw[Hid,aX,hn];rfl
   obtain⟨c,r⟩:=cI (cG s.b nm);have F:Hid (aX s [n,nm]=(⟨dN s.b s.b.now (dI s.b nm false),s.t⟩,jC c)):=by rw[←r];exact G.oQ
   rw[r]at N p;have V:=aI r;have U:Hid (aU (λk=>k=D) w wc):=aU.below W.oQ;clear r G W;go_upto_region 14 with fail;refine pG 15 [some 129,some 130,some 131,some 132,some 133,some 134,some 135,some 136,some 137,some 138,some 139,some 140,some 141,some 142,some 143] (MZ D b (sl y d 2 f) y d nm n false (dN s.b s.b.now (dI s.b nm false)) c) MZ.zL ?step ?fin
   case step=>
    intro ii o P w' za O m l;obtain⟨z0z,z1z,z2z,z3z⟩:=(z.zL m).c;have z4z:=ctq m c1;have z5z:=ctq m Q;match ii,za with
    |2,_|3,_|4,_|6,_|7,_|9,_|10,_|11,_=>
     cases O;simp[Region.binds,MZ]at l;simp only[aD,Act.put,l];gi_wp2;exact⟨_,by simp[aH,l],rfl,br _ _⟩
    |0,_|1,_|5,_|8,_=>
     cases O;gi_wp2;exact⟨_,uhx,rfl,br _ _⟩
    |12,_=>
     cases O;simp[Region.binds,MZ]at l;simp only[aD,Act.put,l];gi_wp2_with fail;refine tqx ?_;refine(cw.2 (FJ (S':=λk=>k=D) (z.zL m).b zb.b nm false (λk e=>by rw[e];exact iB (z.zL m).o))).mono ?_;rintro e w5 ⟨⟨b',rfl,i⟩,Z⟩;have u:=aI i;clear i;rw[V.oQ];gi_wp2;exact⟨_,by simp[aH,l],⟨b',rfl,u.oQ⟩,Z⟩
    |13,_=>
     cases O;obtain⟨b',g,i⟩:=Zq l 12;have u:=aI i;clear l i;simp only[aD,Act.put,g];gi_wp2;exact⟨_,by simp[aH,g],⟨b',rfl,u.oQ⟩,br _ _⟩
    |14,_=>
     cases O;obtain⟨b',g,i⟩:=Zq l 12;have u:=aI i;clear l i;simp only[aD,Act.put,g];gi_wp2;exact⟨_,by simp[aH,g],rfl,br _ _⟩
    |q+15,h=>omega
   case fin=>
    intro P w8 m S;have e0:P 0=(E D 0):=S 0 dz;obtain⟨b',eb,i⟩:=S 13 dz;have ec:P 14=I c:=S 14 dz;have J:=z.zL m;have C:=aI (U.oQ.trans (aU.below m));have u:=aI i;clear S m i;simp only[lds,ldz,aD,Act.put];rw[e0,eb,ec];clear e0 eb ec;generalize P=P;gi_wp2_with fail;refine tqx ?_;refine(cw.2 (sM D w8 _ b _ _ J _ b' u.oQ c N p)).mono ?_;rintro e w9 ⟨⟨b9,ta9,tc9,K⟩,rfl,M⟩;have X:=aI K;have T:=aI (C.oQ.trans M);clear K M C u J;gi_wp2_with fail;go_wp2;go_ret;exact⟨⟨_,_,_,by rw[F.oQ];exact X.oQ⟩,by rw[F.oQ];rfl,T.oQ⟩
  ·have F:Hid (aX s (n::a)=(s,dR)):=by rw[Hid,←xV (took:=false) (s:=s) R,aX,hn];rfl
   have hl':((ln a:Int)+1==2)=false:=by rw[bfn];omega
   clear R;go_wp2;go_ret;exact⟨⟨_,_,_,by rw[F.oQ];exact z⟩,by rw[F.oQ];rfl,aU.below W.oQ⟩
variable {a:List Ba}
def DB20 (D:Nat)(vw:Value)(bl off:Nat)(nm xw:ByteArray)(x:Int)(j:Nat)(v:Value)(_w:World):Prop:=
 match j with
 |0=>v=(E D 0)
 |1|4=>v=vw
 |2=>v=(E bl (off+1))
 |3=>v=.string nm
 |5=>v=(E bl (off+2))
 |6=>v=.string xw
 |7=>v=I x
 |_=>True
theorem yA {s:St}(h:¬(ln a)=2):oC s a=(s,dR):=by
 unfold oC;split;·simp at h
 ·rfl
theorem ws2 (h:ln a=2):∃b c,a=[b,c]:=by
 match a,h with
 |[b,c],_=>exact⟨b,c,rfl⟩
theorem XP (D:Nat) (w:Wd) (s:St) (b:Bk) (ta:Oa) (tc U:Nat) (F:o9 D w s b ta tc) (S:jF U s) (hkk:U<=1000) (n:Ba) (a:List Ba) (m d f:Nat) (r:Xs 1 eE w (some (Y m d)) (n::a)) (hcap:ln a+1<=f) (hlen:ln a+1<=1048570) (_hsz:∀x∈n::a,x.size<=1048575) (hn:n.toList=wT):
 aW 23 #[E D 0,.slice (some (Y m d)) (ln a+1) f] w λe w'=>RO D w (aX s (n::a)) e w':=by
 have N:=iC r 0 n rfl;rw[naz]at N;have G:Xs 1 eE w (some (Y m (d+1))) a:=jN r 1 [n] _ [] sm rfl;go_enter Tryz.func23,Tryz.ntmps23;go_upto_region 1 with fail;go_cut [5,6] (λv5 v6 wx=>v6=.bool (j7 a)/\Hid (j7 a=true->∃V c',v5=.slice V (ln (aS a)) c'/\Xs 1 dV wx V (aS a))/\aG w wx)
 case first=>
  by_cases P:f=1
  ·have ha:a=[]:=enl om;subst ha;subst P;go_wp2_with fail;refine(cC [] (some (Y m d)) 0 w (.inl rfl) sm).mono ?_;rintro e w1 ⟨⟨v1,rfl,g⟩,u⟩;have k:=aI g;clear g;go_wp2;go_meet;exact⟨rfl,k,u⟩
  ·go_wp2_with fail;refine(cC a (some (Y m (d+1))) (f-1) w G om).mono ?_;rintro e w1 ⟨⟨v1,rfl,g⟩,u⟩;have k:=aI g;clear g;go_wp2;go_meet;exact⟨rfl,k,u⟩
 case rest=>
  obtain⟨rfl,HV,C⟩:=hcut;replace r:=r.zL C;replace N:=ctq C N;replace F:=F.zL C;have L:=aI C;clear G C;by_cases H:ln a=2
  ·obtain⟨nm,i,rfl⟩:=ws2 H;have c1:=iC r 1 nm rfl;have c2:=iC r 2 i rfl;have c:Hid (aX s [n,nm,i]=if 0<=aV i then(s,nO s.b nm s.t (aV i))else(s,dR)):=by rw[Hid,aX,hn];rfl
   obtain⟨x,hx⟩:=cI (aV i);have l:=aI hx;rw[hx]at c;clear hx H HV r;by_cases AR:0<=x
   ·have j:Hid (aX s [n,nm,i]=(s,nO s.b nm s.t x)):=by rw[Hid,c.oQ,if_pos AR]
    have T:decide (0<=x)=true:=det AR;clear c;go_wp2_with fail;refine(nD i wc).mono ?_;rintro e w1 ⟨rfl,rfl⟩;rw[l.oQ];go_upto_region 20 with fail;refine pG 8 [some 199,some 200,some 201,some 202,some 203,some 204,some 205,some 206] (DB20 D (sl m d 3 f) m d nm i x) (λ_ _ _ _ h _=>h) ?step ?fin
    case step=>
     intro ii o A w' Q R y z;have z0z:=ctq y c1;have z1z:=ctq y c2;match ii,Q with
     |2,_|3,_|5,_|6,_=>
      cases R;simp[Region.binds,DB20]at z;simp only[aD,Act.put,z];gi_wp2;exact⟨_,by simp[aH,z],rfl,br _ _⟩
     |0,_|1,_|4,_=>
      cases R;gi_wp2;exact⟨_,uhx,rfl,br _ _⟩
     |7,_=>
      cases R;simp[Region.binds,DB20]at z;simp only[aD,Act.put,z];gi_wp2_with fail;refine tqx ?_;refine(cw.2 (nD i w')).mono ?_;rintro e w5 ⟨rfl,rfl⟩;rw[l.oQ];have O:=br w5.heap.size w5;gi_wp2;exact⟨_,by simp[aH,z],rfl,O⟩
     |q+8,h=>omega
    case fin=>
     intro A w8 y J;have W:A 0=(E D 0):=J 0 dz;have X:A 3=.string nm:=J 3 dz;have Z:A 7=I x:=J 7 dz;have p:=F.zL y;have B:=aI (aE L.oQ y);clear J y;simp only[lds,ldz,aD,Act.put];rw[W,X,Z];clear W X Z;generalize A=A;gi_wp2_with fail;refine tqx ?_;refine(cw.2 (SP D w8 s b ta tc U nm x p S om)).mono ?_;rintro e w9 ⟨rfl,v⟩;have M:=aI (p.zL v);have K:=aI (aE B.oQ v);clear v B p;gi_wp2_with fail;go_wp2;go_ret;exact⟨⟨_,_,_,by rw[j.oQ];exact M.oQ⟩,by rw[j.oQ];rfl,aU.below K.oQ⟩
   ·have j:Hid (aX s [n,nm,i]=(s,dR)):=by rw[Hid,c.oQ,if_neg AR]
    have T:decide (0<=x)=false:=def0 AR;clear c;go_wp2_with fail;refine(nD i wc).mono ?_;rintro e w1 ⟨rfl,rfl⟩;rw[l.oQ];go_wp2;go_ret;exact⟨⟨_,_,_,by rw[j.oQ];exact F⟩,by rw[j.oQ];rfl,aU.below L.oQ⟩
  ·have j:Hid (aX s (n::a)=(s,dR)):=by rw[Hid,←yA (s:=s) H,aX,hn];rfl
   have hl':((ln a:Int)+1==3)=false:=by rw[bfn];omega
   clear H;go_wp2;go_ret;exact⟨⟨_,_,_,by rw[j.oQ];exact F⟩,by rw[j.oQ];rfl,aU.below L.oQ⟩
theorem TK (D:Nat)(w:Wd)(s:St)(b:Bk)(ta:Oa)(m l:Nat)(o:o9 D w s b ta m)(i:jF l s)(h:l<=1000)(q:List Ba)(r:q≠[])(k g f:Nat)(p:Xs 1 eE w (some (Y k g)) q)(c:ln q<=f)(d:ln q<=1048570)(j:∀x∈q,x.size<=1048575):
 aW 23 #[E D 0,.slice (some (Y k g)) (ln q) f] w λe w'=>RO D w (aX s q) e w':=by
 obtain⟨n,a,rfl⟩:=List.exists_cons_of_ne_nil r;by_cases t:n.toList=pV;·exact SD D w s b ta m l o i h n a k g f p c d j t
 by_cases u:n.toList=vU;·exact YL D w s b ta m l o i h n a k g f p c d j u
 by_cases v:n.toList=JD;·exact lineBox D w s b ta m l o i h n a k g f p c d j v
 by_cases y:n.toList=pJ;·exact VD D w s b ta m l o i h n a k g f p c d j y
 by_cases z:n.toList=uZ;·exact WN D w s b ta m l o i h n a k g f p c d j z
 by_cases A:n.toList=GH;·exact aAA D w s b ta m l o i h n a k g f p c d j A
 by_cases B:n.toList=wB;·exact WM D w s b ta m l o i h n a k g f p c d j B
 by_cases C:n.toList=vI;·exact YC D w s b ta m l o i h n a k g f p c d j C
 by_cases F:n.toList=wT;·exact XP D w s b ta m l o i h n a k g f p c d j F
 exact XF D w s b ta m l o i h n a k g f p c d j t u v y z A B C F
variable {w:Wd}{l:List Ba}
theorem st0_spi (D:Nat)(h:w.heap[D]?=some (.cells #[I 0,ms,ms,ms] 70)):o9 D w st0 ⟨0,none,[],0,none,[],0⟩ none 0:=
 ⟨h,⟨⟨rfl,rfl,SO⟩,λ_ _=>⟨.inl rfl,.inl rfl,λx hx=>by cases hx⟩,nlq _,nz _⟩,λ_ _=>.inl rfl⟩
theorem RE (m:Nat)(hm:ln l=m+1):l.getLastD ⟨#[]⟩=l[m]'om:=by
 rw[List.getLastD_eq_getLast?,List.getLast?_eq_getElem?,show(ln l)-1=m from by omega,lge om];rfl
theorem qL (d:Ba)(w:Wd)(yg:d.size<=1000000000):
 aW 6 #[.string d] w λe w'=>e=rt (.string (BX d))/\aG w w':=by
 go_enter Tryz.func6,Tryz.ntmps6
 go_wp2_with fail
 refine(sV d 10 w yg).mono ?_;rintro e w1 ⟨⟨v1,rfl,i⟩,zf⟩;have F:=zX 10 d;have A:=kU 10 d;have y:∀x∈bG 10 d,x.size<=d.size:=λx hx=>pA hx;have j:Hid (fP d=if((bG 10 d).getLastD ⟨#[]⟩).toList=[]then(bG 10 d).dropLast else bG 10 d):=rfl;obtain⟨L,hL⟩:=bQ (bG 10 d);rw[←hL]at i F A y j;clear hL;obtain⟨m,hm⟩:∃m,ln L=m+1:=⟨ln L-1,by have:=lpi.2 F;omega⟩;rw[RE m hm]at j;rw[hm]at i
 obtain⟨g,f,rfl⟩:∃g f,v1=(sl g 0 (m+1) f):=by
  obtain⟨_,⟨_,e⟩|⟨g,f,_,e,_⟩⟩:=i
  ·omega
  ·exact⟨g,f,e⟩
 have hg1:g<w1.heap.size:=(i.lt g rfl).2;have H:m+1<=f:=(vY i).1
 have v:Xs 1 eE w1 (some (Y g 0)) L:=by
  rw[←hm]at i;obtain⟨a,c,e,hx⟩:=sY i
  cases e
  exact hx
 have cl:w1.cell? (Y g m)=some (.string (L[m]'om)):=by
  have:=iC v m (L[m]'om) (by rw[lge])
  simpa using this
 have zx:m<=1000000000:=om
 have zw:m<=f:=om
 have t:=aI zf;have Z:=aI hm;obtain⟨z,hz⟩:=bQ (L[m]'om);rw[←hz]at cl j;clear i zf hz hm
 by_cases s:z.toList=[]
 case' pos=>
  obtain⟨T,u⟩:=bQ (L.take m)
  have M:Hid (fP d=T):=by
   rw[Hid,j.oQ,if_pos s,u,List.dropLast_eq_take]
   congr 1
   have:=Z.oQ;omega
  have l:Hid (ln T=m):=by rw[Hid,u,llt];have:=Z.oQ;omega
  have O:Xs 1 eE w1 (some (Y g 0)) T:=by rw[u];exact v.take m
  have J:∀x∈T,x.size<=d.size:=λx hx=>y x (by rw[u]at hx;exact lmt hx);have V:(z.toList==[])=true:=by rw[s];rfl
  clear u y v Z F A j
  go_upto_region 4 with fail
  clear cl s V H;obtain⟨n,hn⟩:=bQ m;subst hn
 case' neg=>
  obtain⟨T,u⟩:=bQ L;have M:Hid (fP d=T):=by rw[Hid,j.oQ,if_neg s,u]
  have l:Hid (ln T=m+1):=by rw[Hid,u];exact Z.oQ
  have O:Xs 1 eE w1 (some (Y g 0)) T:=by rw[u];exact v
  have J:∀x∈T,x.size<=d.size:=λx hx=>y x (by rw[u]at hx;exact hx);have V:(z.toList==[])=false:=by rw[bfn];exact s
  clear u y v Z F A j
  go_upto_region 4 with fail
  clear cl s V zw;obtain⟨n,hn⟩:=bQ (m+1);rw[←hn]at l H ⊢
  replace zx:n<=1000000001:=om
  clear hn
 all_goals
  by_cases h1:20000<d.size
  ·have HR:Hid (BX d=FS):=if_pos h1
   have zq:decide ((20000:Int)<(d.size:Int))=true:=by rw[dte];omega
   go_wp2
   go_ret;exact⟨by rw[HR.oQ];rfl,t.oQ⟩
  have zq:decide ((20000:Int)<(d.size:Int))=false:=by rw[dfi];omega
  by_cases h2:300<n
  ·have HR:Hid (BX d=FS):=by rw[Hid,BX,if_neg h1,M.oQ,l.oQ,if_pos h2]
   have zr:decide ((300:Int)<(n:Int))=true:=by rw[dte];omega
   go_wp2
   go_ret;exact⟨by rw[HR.oQ];rfl,t.oQ⟩
  have zr:decide ((300:Int)<(n:Int))=false:=by rw[dfi];omega
  have HR:Hid (BX d=(oR T).2):=by rw[Hid,BX,if_neg h1,M.oQ,l.oQ,if_neg h2]
  have zy:=IW T;have C:aG w1 (w1.alloc (.cells #[I 0,ms,ms,ms] 70)):=aC (br _ _) _;have N:Hid (o9 w1.heap.size (w1.alloc (.cells #[I 0,ms,ms,ms] 70)) st0 ⟨0,none,[],0,none,[],0⟩ none 0):=st0_spi _ (wnq w1 _);obtain⟨W0,zd⟩:=cI (w1.alloc (.cells #[I 0,ms,ms,ms] 70));rw[zd]at C N;have zn:=aI (aE t.oQ C);have zs:=O.zL C
  go_upto_region 8 with fail
  obtain⟨D,hD⟩:=bQ w1.heap.size;rw[←hD]at N ⊢;have zu:g≠D:=om
  have yb:w.heap.size<=D:=by have:=t.oQ.size;omega
  clear C O zd hD t;go_wp2
  go_loopw [5,6] (λov iv wr=>∃(k:Nat) (b:Bk) (ta:Oa) (tc:Nat),k<=n/\ov=.string (oR (T.take k)).2/\iv=I k/\Hid (o9 D wr (oR (T.take k)).1 b ta tc)/\Hid (aU (λq=>q=D) W0 wr)) (λ_ iv _=>n-(intOf iv).toNat)
  case atStart=>exact⟨0,_,_,_,nz _,rfl,rfl,N,aU.refl _ _⟩
  case round=>
   obtain⟨k,b,ta,tc,hk,rfl,rfl,HS,W⟩:=hrel;obtain⟨S,zz⟩:=zy k (by rw[l.oQ];exact hk)
   by_cases zv:k<n
   ·have zi:(k:Int)<(n:Int):=om
    have R:k<ln T:=by rw[l.oQ];exact zv
    have c0:wr.cell? (Y g k)=some (.string T[k]):=by
     have:=iC zs k T[k] (by rw[lge]);rw[nza]at this;exact W.oQ.cell (p:=(Y g k)) zu this
    have B:=aI (xC T k R);have yd:=J _ (lgm R);obtain⟨x,hx⟩:=bQ (T[k]);rw[←hx]at c0 B yd;clear hx R;obtain⟨P,hP⟩:=bQ (oR (T.take k));rw[←hP]at HS B S zz ⊢;clear hP;go_wp2_with fail
    refine(sV x 32 wr om).mono ?_;rintro e w2 ⟨⟨v2,rfl,G⟩,Q⟩;have yc:=kU 32 x;have U:=zX 32 x;have zk:∀q∈bG 32 x,q.size<=1048575:=λq hq=>by have:=pA hq;omega
    have o:Hid (oR (T.take (k+1))=((aX P.1 (bG 32 x)).1,P.2++(aX P.1 (bG 32 x)).2++sLf)):=B.oQ;have zj:=yB S (bG 32 x);obtain⟨ws,K⟩:=bQ (bG 32 x);rw[←K]at G yc U zk o zj;clear K B
    obtain⟨g2,za,rfl,zt⟩:∃g f,v2=(sl g 0 (ln ws) f)/\(ln ws)<=f:=by
     obtain⟨_,⟨_,e⟩|⟨g,f,_,e,_,_,h,_⟩⟩:=G
     ·exact absurd (enl e) U
     ·exact⟨g,f,e,h⟩
    have ze:Xs 1 eE w2 (some (Y g2 0)) ws:=by
     obtain⟨a,c,e,hx⟩:=sY G
     cases e
     exact hx
    have zb:=HS.oQ.zL Q;have X:=aI (W.oQ.trans (aU.below Q));clear G Q HS W c0;go_wp2_with fail
    refine(TK D w2 P.1 b ta tc k zb S om ws U g2 0 za ze zt om zk).mono ?_;rintro e w3 ⟨⟨b3,ye,yf,zc⟩,rfl,zg⟩;have zp:=aI zc;have zl:=aI (X.oQ.trans zg);obtain⟨r,hr⟩:=bQ ((aX P.1 ws).2);rw[←hr]at zj o ⊢;clear zc zg X zb ze hr;have g1:¬9223372036854775807<P.2.size+r.size:=om
    have g2':¬9223372036854775807<P.2.size+r.size+1:=om
    go_wp2
    go_roundw
    case rel=>exact⟨k+1,b3,ye,yf,om,by rw[o.oQ],gn,by rw[o.oQ];exact zp.oQ,zl⟩
    case measure=>simp[intOf];omega
   ·have zi:¬(k:Int)<(n:Int):=om
    have zh:T.take k=T:=ltl (by rw[l.oQ];omega);have zm:Hid (aG w wr):=W.oQ.under zn.oQ (nlq _) (λq e=>by rw[e];exact yb);rw[zh];clear zh HS W;go_wp2
    go_ret;exact⟨by rw[HR.oQ];rfl,zm.oQ⟩
