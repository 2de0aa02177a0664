import Derived.Test.YtcdbcliaepcpfaaGreatDoorYa
import Derived.Test.YtcdbcliaepcpfaaGreatDoorXe
import Derived.Deep.DeepCutAuto
import Derived.Deep.CutBlock
namespace Go.Proofs.YtcdbcliaepcpfaaGreatDoor
open Go.RowKit
structure St where
 b:Bk
 t:List Bx
abbrev cX:ByteArray:=⟨#[98,97,100]⟩
abbrev SE:ByteArray:=⟨#[111,107]⟩
abbrev WT:ByteArray:=⟨#[110,111]⟩
abbrev XW:ByteArray:=⟨#[32]⟩
abbrev XS:ByteArray:=⟨#[10]⟩
abbrev UJ:ByteArray:=⟨#[45]⟩
def oJ (l:List Fx)(nm:ByteArray):Nat:=(l.takeWhile (λg=>fY g.n nm)).length
def gU (l:List Fx)(f:Fx):List Fx:=l.take (oJ l f.n)++f::l.drop (oJ l f.n)
def gH (b:Bk)(f:Fx):Bk:=⟨b.now,none,gU b.fl f,0,none,b.hl,0⟩
def fT (s:St):List ByteArray->St×ByteArray
 |[nm,x,y]=>if jG [x,y]then(if aN (gH s.b ⟨nm,aV x,aV y⟩)then(⟨gH s.b ⟨nm,aV x,aV y⟩,s.t⟩,SE)else(s,WT))else(s,cX)
 |_=>(s,cX)
def uQ (nm q sl f b l:ByteArray)(lv:List ByteArray)(cs:List (List Cx)):Wx:=⟨nm,aV q,aV sl,aV f,aV b,aV l,none,cs.map (λc=>⟨none,c,0⟩),0,none,aS lv,0⟩
def yU:List Co->ByteArray
 |[]=>⟨#[]⟩
 |c::_=>⟨#[108,97,116,101,32]⟩++dD c.d++⟨#[32,119,97,121,32]⟩++dD c.i++⟨#[32,108,101,118,101,108,32]⟩++dD c.k
def nK (s:St)(x:Wx):St×ByteArray:=(⟨dM s.b s.b.now (eU s.b x),s.t⟩,if dL s.b x=0 then yU (sA s.b x)else iK (dL s.b x))
def jW (s:St):List ByteArray->St×ByteArray
 |nm::q::sl::f::b::l::lv::y::ys=>
  if jG [q,sl,f,b,l]&&jG (bH 44 lv)then(match fI (y::ys)with|some cs=>nK s (uQ nm q sl f b l (bH 44 lv) cs)|none=>(s,cX))else(s,cX)
 |_=>(s,cX)
def uE (s:St):List ByteArray->St×ByteArray
 |[a,b,c,d,e,f]=>if jG [a,b,c,d,e,f]then(⟨s.b,s.t++[⟨aV a,aV b,aV c,aV d,aV e,aV f⟩]⟩,SE)else(s,cX)
 |_=>(s,cX)
def pF (s:St):List ByteArray->St×ByteArray
 |[nm]=>(⟨dM s.b s.b.now (fX s.b nm s.t),[]⟩,iK (dX s.b nm s.t))
 |_=>(s,cX)
def nA (took:Bool)(s:St):List ByteArray->St×ByteArray
 |[nm]=>(⟨dM s.b s.b.now (dK s.b nm took),s.t⟩,iK (cJ s.b nm))
 |_=>(s,cX)
def lT (s:St):List ByteArray->St×ByteArray
 |[n]=>if 0<=aV n then(⟨dM s.b (fF s.b (aV n)) (eR s.b (aV n)),s.t⟩,iK (cV s.b (aV n)))else(s,cX)
 |_=>(s,cX)
def mC (o:ByteArray)(h:Hx):ByteArray:=o++XW++h.n++⟨#[58]⟩++iG h.tl++⟨#[47]⟩++iG h.nl
def qD (b:Bk):ByteArray:=b.hl.foldl mC (dD b.now)
def tX (s:St):List ByteArray->St×ByteArray
 |[]=>(s,qD s.b)
 |_=>(s,cX)
open Classical in
noncomputable def nR (b:Bk)(nm:ByteArray)(t:List Bx)(most:Int):List Sp:=if∃l,eL b nm t most l then Classical.epsilon λl=>eL b nm t most l else[]
open Classical in
noncomputable def pN (b:Bk)(nm:ByteArray)(t:List Bx)(most:Int):Option Int:=if∃o,eA b nm t most o then Classical.epsilon λo=>eA b nm t most o else none
theorem AX {b:Bk}{nm:ByteArray}{t:List Bx}{a:Int}{l:List Sp}(h:eL b nm t a l):nR b nm t a=l:=by
 unfold nR;rw[if_pos ⟨l,h⟩];exact(Classical.epsilon_spec (p:=λl=>eL b nm t a l) ⟨l,h⟩).uniq h
theorem BQ {b:Bk}{nm:ByteArray}{t:List Bx}{a:Int}{o:Option Int}(h:eA b nm t a o):pN b nm t a=o:=by
 unfold pN;rw[if_pos ⟨o,h⟩];exact(Classical.epsilon_spec (p:=λo=>eA b nm t a o) ⟨o,h⟩).uniq h
theorem SS (b:Bk)(nm:ByteArray)(t:List Bx)(a:Int):eL b nm t a (nR b nm t a)∨nR b nm t a=[]:=by
 by_cases h:∃l,eL b nm t a l
 ·obtain⟨l,h⟩:=h;rw[AX h];exact .inl h
 ·exact .inr (if_neg h)
theorem TH (b:Bk)(nm:ByteArray)(t:List Bx)(a:Int):eA b nm t a (pN b nm t a)∨pN b nm t a=none:=by
 by_cases h:∃l,eA b nm t a l
 ·obtain⟨l,h⟩:=h;rw[BQ h];exact .inl h
 ·exact .inr (if_neg h)
def mJ (o:ByteArray)(p:Sp):ByteArray:=o++dD p.lo++UJ++dD p.hi++XW
def OL (s:ByteArray):Option Int->ByteArray
 |none=>s++⟨#[110,101,118,101,114]⟩
 |some d=>s++⟨#[102,114,101,101,32]⟩++dD d
noncomputable def mS (b:Bk)(nm:ByteArray)(t:List Bx)(most:Int):ByteArray:=OL ((nR b nm t most).foldl mJ ⟨#[]⟩) (pN b nm t most)
noncomputable def mY (s:St):List ByteArray->St×ByteArray
 |[nm,m]=>if 0<=aV m then(s,mS s.b nm s.t (aV m))else(s,cX)
 |_=>(s,cX)
abbrev pA:List UInt8:=[102,105,101,108,100]
abbrev vE:List UInt8:=[119,105,115,104]
abbrev FI:List UInt8:=[98,111,120]
abbrev oI:List UInt8:=[97,109,101,110,100]
abbrev uN:List UInt8:=[116,111,111,107]
abbrev FK:List UInt8:=[114,101,102,117,115,101,100]
abbrev tW:List UInt8:=[116,105,99,107]
abbrev tZ:List UInt8:=[104,101,108,100]
abbrev uR:List UInt8:=[98,97,114,115]
noncomputable def aX (s:St):List ByteArray->St×ByteArray
 |[]=>(s,cX)
 |n::a=>if n.toList=pA then fT s a else if n.toList=vE then jW s a else if n.toList=FI then uE s a else if n.toList=oI then pF s a else
  if n.toList=uN then nA true s a else if n.toList=FK then nA false s a else if n.toList=tW then lT s a else if n.toList=tZ then tX s a else if n.toList=uR then mY s a else(s,cX)
structure iP (k:Nat)(s:St):Prop where
 b:aN s.b=true
 t:s.t.length<=k
theorem iP.mono {k a:Nat}{s:St}(h:iP k s)(hk:k<=a):iP a s:=⟨h.b,by have:=h.t;omega⟩
theorem V7 {k:Nat}{s:St}(h:iP k s)(d:List ByteArray):iP (k+1) (aX s d).1:=by
 have a:iP (k+1) s:=h.mono (by omega);have ht:=h.t;unfold aX;split;·exact a
 ·split
  ·unfold fT;split
   ·split
    ·split;·rename_i c;exact⟨c,by show s.t.length<=_;omega⟩
     ·exact a
    ·exact a
   ·exact a
  ·split
   ·unfold jW;split
    ·split
     ·split;·exact⟨US _ h.b,by show s.t.length<=_;omega⟩
      ·exact a
     ·exact a
    ·exact a
   ·split
    ·unfold uE;split
     ·split;·exact⟨h.b,by show(s.t++[_]).length<=_;simp;omega⟩
      ·exact a
     ·exact a
    ·split
     ·unfold pF;split;·exact⟨SH _ _ h.b,by show([]:List Bx).length<=_;simp⟩
      ·exact a
     ·split
      ·unfold nA;split;·exact⟨D6 _ _ h.b,by show s.t.length<=_;omega⟩
       ·exact a
      ·split
       ·unfold nA;split;·exact⟨D6 _ _ h.b,by show s.t.length<=_;omega⟩
        ·exact a
       ·split
        ·unfold lT;split
         ·split;·exact⟨PR _ h.b,by show s.t.length<=_;omega⟩
          ·exact a
         ·exact a
        ·split
         ·unfold tX;split<;>exact a
         ·split
          ·unfold mY;split;·split<;>exact a
           ·exact a
          ·exact a
open Go.BigFrame
structure XH (w:World)(b:Bk):Prop where
 f:Xs 3 Fx.cells w b.fa b.fl
 h:Xs 3 Hx.cells w b.ha b.hl
 i:∀h∈b.hl,h.In w
structure dZ (S:Nat->Prop)(w:World)(s b:Bk):Prop where
 c:KE s.now s.fl s.hl b
 i:∀w',aT S w w'->XH w' b
 f1:b.fl.length<=b.fc
 f2:b.fc<=9223372036854775807
theorem dZ.but {S:Nat->Prop}{w w':World}{s b:Bk}(h:dZ S w s b)(d:aT S w w'):dZ S w' s b:=⟨h.c,λe a=>h.i e (d.trans a),h.f1,h.f2⟩
theorem dZ.zL {S:Nat->Prop}{w w':World}{s b:Bk}(h:dZ S w s b)(a:aF w w'):dZ S w' s b:=h.but (aT.below a)
theorem dZ.inn {S:Nat->Prop}{w:World}{s b:Bk}(h:dZ S w s b):XH w b:=h.i w (aT.refl _ _)
theorem dZ.book {S:Nat->Prop}{w:World}{s b:Bk}(h:dZ S w s b):aN b=aN s:=oX h.c.now h.c.fl h.c.lk
theorem BR {a:List Fx}{l:List Bx}(h:aQ a l=true):l.length<=40:=by
 simp only[aQ,bat]at h;have:=h.1;simp[n6]at this;omega
theorem uJ {b:Bk}(h:aN b=true):∀x∈b.hl,x.Fit/\x.tl.length<=40/\x.nl.length<=40/\x.n.size<=8/\(∀y∈x.tl,aK y=true)/\(∀y∈x.nl,aK y=true):=λx hx=>by
 obtain⟨_,_,_,c⟩:=eN.1 h;have e:=lat.1 (iT.1 c).1.1 x hx;have a:=(iT.1 c).2.1 x hx;have d:=qM a;simp only[cI,bat,Bool.or_eq_true]at a;simp only[cS,xF,bat,dte]at e;have f:=BR a.1
 have i:x.nl.length<=40:=by
  rcases a.2.2 with g|g;·rw[List.isEmpty_iff.1 g];simp
  ·exact BR g.1
 exact⟨⟨by omega,by omega,by omega⟩,f,i,e.1.2,lat.1 d.t,lat.1 d.n⟩
theorem EN {b:Bk}(h:aN b=true):b.fl.length<=4/\∀f∈b.fl,f.n.size<=8:=by
 obtain⟨_,a,_,_⟩:=eN.1 h;simp only[cB,bV,bat,dte]at a;refine⟨a.1,λf c=>?_⟩;have:=lat.1 a.2.1.1 f c;simp only[cS,xF,bat,dte]at this;exact this.1.2
theorem dZ.asks {S:Nat->Prop}{w:World}{s b:Bk}(h:dZ S w s b)(d:aN s=true):iW w b:=by
 have a:aN b=true:=h.book.trans d;obtain⟨f1,c⟩:=EN a;have:=lS a;exact⟨h.inn.f,by omega,h.f1,h.f2,λf e=>by have:=c f e;omega,h.inn.h,by omega,λx hx=>⟨h.inn.i x hx,(uJ a x hx).1⟩⟩
theorem dZ.ok {S:Nat->Prop}{w:World}{s b:Bk}(h:dZ S w s b)(c:aN s=true):BG b w:=λ_ a=>sK ((h.asks c).zL a) _ rfl
theorem HU {w:World}{z:Nat}{a:Option Addr}{n c:Nat}{l:List Bx}(h:aP w z (.slice a n c) l):∀x,a=some x->z<=x.block:=λx hx=>by
 rcases h with⟨e,_⟩|⟨g,cap,e,b,_⟩;·cases e;cases hx
 ·cases e;cases hx;exact b
theorem eF.stay {S:Nat->Prop}{z:Nat}{w:World}{b:Bk}(h:eF z w b)(c:∀k,S k->k<z):∀w',aT S w w'->XH w' b:=λw' d=>
 ⟨(h.f.but d c).xs Fx.cells_length,(h.h.but d c).xs Hx.cells_length,λx hx=>⟨((h.t x hx).t.but d (λa e g=>by have:=HU (h.t x hx).t a e;have:=c _ g;omega)).xs,((h.t x hx).n.but d (λa e g=>by have:=HU (h.t x hx).n a e;have:=c _ g;omega)).xs⟩⟩
theorem eF.at {S:Nat->Prop}{z:Nat}{w:World}{b s:Bk}(h:eF z w b)(l:∀k,S k->k<z)(m:KE s.now s.fl s.hl b):dZ S w s b:=
 ⟨m,h.stay l,by
  rcases h.f with⟨e,d⟩|⟨g,a,e,_,i,_⟩;·rw[d];exact nz _
  ·have j:b.fc=a:=by injection e
   rw[j];exact i,h.c _ _ _ rfl⟩
theorem gY.spS {z:Nat}{w:World}{b:Bk}(h:gY z w b):eF z w b:=⟨h.f,h.h,h.t,λa n c e=>by cases e;exact h.cf⟩
theorem DK {S S':Nat->Prop}{w:World}{s b:Bk}(h:dZ S w s b)(d:aN s=true)(nm:ByteArray)(took:Bool)(p:∀k,S' k->k<w.heap.size):
 aY 19 #[b.val,.string nm,.bool took] w λe w'=>(∃b',e=.returned (.tuple #[Bk.val b',.int .i64 (cJ s nm)])/\dZ S' w' (dM s s.now (dK s nm took)) b')/\aF w w':=by
 have ha:=h.asks d;refine(FO b nm took w (h.ok d) ha.hf ha.hnf ha.hh ha.hnh ha.hgood).mono ?_;rintro e w' ⟨o,f⟩;refine⟨?_,f⟩;obtain⟨l,m⟩:=xQ (b:=s) (b1:=b) h.c.lk nm took;rcases o with⟨a,_⟩|⟨_,b',rfl,g,i,j,n⟩;·rw[h.book,d]at a;cases a
 ·exact⟨b',by rw[l],n.at p ⟨g.trans h.c.now,i.trans h.c.fl,m.trans j⟩⟩
theorem RM {S S':Nat->Prop}{w:World}{s b:Bk}(r:j9 w)(h:dZ S w s b)(g:aN s=true)(nm:ByteArray)(took:Bool)(u:∀k,S' k->k<w.heap.size):
 aY 106 #[b.val,.string nm,.bool took] w λe w'=>(∃b',e=.returned (.tuple #[Bk.val b',.int .i64 (cJ s nm)])/\dZ S' w' (dM s s.now (dK s nm took)) b')/\aF w w':=by
 have ha:=h.asks g;refine(GH b nm took w r ha.hf ha.hnf ha.hcap ha.hc2 ha.hs ha.hh ha.hnh ha.hgood).mono ?_;rintro e w' ⟨q,d⟩;refine⟨?_,d⟩;obtain⟨o,p⟩:=xQ (b:=s) (b1:=b) h.c.lk nm took;rcases q with⟨a,_⟩|⟨a,b1,i,f,b'',c,v,⟨rfl,rfl⟩,rfl,t⟩;·rw[h.book,g]at a;cases a
 ·obtain⟨j,l,m,n⟩:=MJ (took:=took) a v;exact⟨_,by rw[j,o],t.spS.at u ⟨l.trans h.c.now,m.trans h.c.fl,p.trans n⟩⟩
theorem L8 {S S':Nat->Prop}{w:World}{s b:Bk}(h:dZ S w s b)(f:aN s=true)(nm:ByteArray)(a:List Bx)(ta:Option Addr)(i:Nat)(u:jJ w ta a)(t:a.length<=1048576)(r:∀k,S' k->k<w.heap.size):
 aY 18 #[b.val,.string nm,.slice ta a.length i] w λe w'=>(∃b',e=.returned (.tuple #[Bk.val b',.int .i64 (dX s nm a)])/\dZ S' w' (dM s s.now (fX s nm a)) b')/\aF w w':=by
 have ha:=h.asks f;refine(CS b nm a ta i w (h.ok f) (ha.with u t)).mono ?_;rintro e w' ⟨q,g⟩;refine⟨?_,g⟩;obtain⟨n,o⟩:=BI (b:=s) (b1:=b) h.c.now h.c.fl h.c.lk nm a;rcases q with⟨d,_⟩|⟨_,b',rfl,j,l,m,p⟩;·rw[h.book,f]at d;cases d
 ·exact⟨b',by rw[n],p.at r ⟨j.trans h.c.now,l.trans h.c.fl,o.trans m⟩⟩
theorem M6 {S S':Nat->Prop}{w:World}{s b:Bk}(u:j9 w)(h:dZ S w s b)(l:aN s=true)(nm:ByteArray)(d:List Bx)(ta:Option Addr)(m:Nat)(z:jJ w ta d)(y:d.length<=1048576)(x:∀k,S' k->k<w.heap.size):
 aY 64 #[b.val,.string nm,.slice ta d.length m] w λe w'=>(∃b',e=.returned (.tuple #[Bk.val b',.int .i64 (dX s nm d)])/\dZ S' w' (dM s s.now (fX s nm d)) b')/\aF w w':=by
 have ha:=h.asks l;refine(CI b nm d ta m w u ha.hf ha.hnf ha.hcap ha.hc2 ha.hs ha.hh ha.hnh ha.hgood z y).mono ?_;rintro e w' ⟨t,g⟩;refine⟨?_,g⟩;obtain⟨q,r⟩:=BI (b:=s) (b1:=b) h.c.now h.c.fl h.c.lk nm d;rcases t with⟨a,_⟩|⟨a,b1,i,f,b'',c,j,⟨rfl,n,o,p⟩,rfl,v⟩;·rw[h.book,l]at a;cases a
 ·obtain⟨A,B⟩:=OV d a j;exact⟨_,by rw[A,q],v.spS.at x ⟨(n.trans j.now).trans h.c.now,(o.trans j.fl).trans h.c.fl,(r.trans B).trans p⟩⟩
theorem PB {S S':Nat->Prop}{w:World}{s b:Bk}(h:dZ S w s b)(d:aN s=true)(n:Int)(r:∀k,S' k->k<w.heap.size):
 aY 20 #[b.val,.int .i64 n] w λe w'=>(∃b',e=.returned (.tuple #[Bk.val b',.int .i64 (cV s n)])/\dZ S' w' (dM s (fF s n) (eR s n)) b')/\aF w w':=by
 have ha:=h.asks d;refine(F2 b n w (h.ok d) ha.hf ha.hnf ha.hh ha.hnh ha.hgood).mono ?_;rintro e w' ⟨q,f⟩;refine⟨?_,f⟩;obtain⟨l,m,o⟩:=wL (b:=s) (b':=b) n h.c.now h.c.lk;rcases q with⟨a,_⟩|⟨_,b',rfl,g,i,j,p⟩;·rw[h.book,d]at a;cases a
 ·exact⟨b',by rw[l],p.at r ⟨g.trans m,i.trans h.c.fl,o.trans j⟩⟩
theorem PL {S S':Nat->Prop}{w:World}{s b:Bk}(q:j9 w)(h:dZ S w s b)(f:aN s=true)(n:Int)(t:∀k,S' k->k<w.heap.size):
 aY 66 #[b.val,.int .i64 n] w λe w'=>(∃b',e=.returned (.tuple #[Bk.val b',.int .i64 (cV s n)])/\dZ S' w' (dM s (fF s n) (eR s n)) b')/\aF w w':=by
 have ha:=h.asks f;refine(FP b n w q ha.hf ha.hnf ha.hcap ha.hc2 ha.hs ha.hh ha.hnh ha.hgood).mono ?_;rintro e w' ⟨⟨v,rfl,p⟩,d⟩;refine⟨?_,d⟩;obtain⟨l,m,o⟩:=wL (b:=s) (b':=b) n h.c.now h.c.lk;rcases p with⟨a,_⟩|⟨_,b',rfl,g,i,j,r⟩;·rw[h.book,f]at a;cases a
 ·exact⟨b',by rw[l],r.spS.at t ⟨g.trans m,i.trans h.c.fl,o.trans j⟩⟩
theorem rL {s b:Bk}(h:KE s.now s.fl s.hl b)(t:List Bx)(a:Int):dA b t a=dA s t a:=by
 rw[dA,dA,oX h.now h.fl h.lk,h.fl]
theorem yO {s b:Bk}(h:KE s.now s.fl s.hl b)(nm:ByteArray)(t:List Bx):kU b nm t=kU s nm t:=by
 funext d;unfold kU;rw[TK h.lk (F:=λx=>tC nm x.n=true/\(CG t x.tl d∨CG t x.nl d)) (λa b g=>by rw[g.n,g.t,g.x])]
theorem PO {S:Nat->Prop}{w:World}{s b:Bk}(h:dZ S w s b)(j:aN s=true)(nm:ByteArray)(d:List Bx)(ta:Option Addr)(i:Nat)(a:Int)(n:jJ w ta d)(k:d.length<=1048576):
 aY 50 #[b.val,.string nm,.slice ta d.length i,.int .i64 a] w λe w'=>(∃v,e=.returned v/\kW w' w.heap.size v (nR s nm d a)/\eL s nm d a (nR s nm d a))/\aF w w':=by
 refine(EO b nm d ta i a w ((h.asks j).with n k)).mono ?_;rintro e w' ⟨⟨v,l,rfl,m,g⟩,f⟩;unfold eL at g;rw[rL h.c,yO h.c]at g;have e:=AX (b:=s) g;exact⟨⟨v,rfl,by rw[e];exact m,by rw[e];exact g⟩,f⟩
theorem O9 {S:Nat->Prop}{w:World}{s b:Bk}(h:dZ S w s b)(j:aN s=true)(nm:ByteArray)(d:List Bx)(ta:Option Addr)(i:Nat)(a:Int)(n:jJ w ta d)(k:d.length<=1048576):
 aY 68 #[b.val,.string nm,.slice ta d.length i,.int .i64 a] w λe w'=>(∃v,e=.returned v/\kW w' w.heap.size v (nR s nm d a)/\eL s nm d a (nR s nm d a))/\aF w w':=by
 refine(FE b nm d ta i a w ((h.asks j).with n k)).mono ?_;rintro e w' ⟨⟨v,l,rfl,m,g⟩,f⟩;unfold eL at g;rw[rL h.c,yO h.c]at g;have e:=AX (b:=s) g;exact⟨⟨v,rfl,by rw[e];exact m,by rw[e];exact g⟩,f⟩
theorem PI {S:Nat->Prop}{w:World}{s b:Bk}(h:dZ S w s b)(j:aN s=true)(nm:ByteArray)(d:List Bx)(ta:Option Addr)(i:Nat)(a:Int)(l:jJ w ta d)(k:d.length<=1048576):
 aY 51 #[b.val,.string nm,.slice ta d.length i,.int .i64 a] w λe w'=>(e=.returned (dY (pN s nm d a))/\eA s nm d a (pN s nm d a))/\aF w w':=by
 refine(vP b nm d ta i a w ((h.asks j).with l k)).mono ?_;rintro e w' ⟨⟨o,rfl,g⟩,f⟩;unfold eA at g;rw[rL h.c,yO h.c]at g;have e:=BQ (b:=s) g;exact⟨⟨by rw[e],by rw[e];exact g⟩,f⟩
theorem OX {S:Nat->Prop}{w:World}{s b:Bk}(h:dZ S w s b)(j:aN s=true)(nm:ByteArray)(d:List Bx)(ta:Option Addr)(i:Nat)(a:Int)(l:jJ w ta d)(k:d.length<=1048576):
 aY 70 #[b.val,.string nm,.slice ta d.length i,.int .i64 a] w λe w'=>(e=.returned (dY (pN s nm d a))/\eA s nm d a (pN s nm d a))/\aF w w':=by
 refine(vW b nm d ta i a w ((h.asks j).with l k)).mono ?_;rintro e w' ⟨⟨o,rfl,g⟩,f⟩;unfold eA at g;rw[rL h.c,yO h.c]at g;have e:=BQ (b:=s) g;exact⟨⟨by rw[e],by rw[e];exact g⟩,f⟩
set_option maxRecDepth 100000
set_option maxHeartbeats 8000000
structure nU (D:Nat)(w:World)(s:St)(b:Bk)(ta:Option Addr)(tc:Nat):Prop where
 o:w.heap[D]?=some (.cells #[.int .i64 b.now,.slice b.fa b.fl.length b.fc,.slice b.ha b.hl.length b.hc,.slice ta s.t.length tc] 33)
 b:dZ (λk=>k=D) w s.b b
 t:∀w',aT (λk=>k=D) w w'->jJ w' ta s.t
theorem nU.zL {D:Nat}{w w':World}{s:St}{b:Bk}{ta:Option Addr}{c:Nat}(h:nU D w s b ta c)(a:aF w w'):nU D w' s b ta c:=
 ⟨bJ h.o a,h.b.zL a,λe d=>h.t e ((aT.below a).trans d)⟩
theorem nU.c {D:Nat}{w:World}{s:St}{b:Bk}{ta:Option Addr}{a:Nat}(h:nU D w s b ta a):w.cell? ⟨D,0,none⟩=some (.int .i64 b.now)/\w.cell? ⟨D,1,none⟩=some (.slice b.fa b.fl.length b.fc)/\w.cell? ⟨D,2,none⟩=some (.slice b.ha b.hl.length b.hc)/\w.cell? ⟨D,3,none⟩=some (.slice ta s.t.length a):=⟨aJ h.o rfl,aJ h.o rfl,aJ h.o rfl,aJ h.o rfl⟩
theorem nU.tb {D:Nat}{w:World}{s:St}{b:Bk}{ta:Option Addr}{a:Nat}(h:nU D w s b ta a):jJ w ta s.t:=h.t w (aT.refl _ _)
theorem QN (o:ByteArray)(p:Sp)(c:p.lo<=2000000)(d:p.hi<=2000000):(mJ o p).size<=o.size+4000004:=by
 have:=bG c;have:=bG d;have a:UJ.size=1:=rfl;have b:XW.size=1:=rfl;simp only[mJ,ByteArray.size_append,a,b];omega
theorem wK (l:List Sp)(h:∀p∈l,p.lo<=2000000/\p.hi<=2000000):∀o:ByteArray,(l.foldl mJ o).size<=o.size+l.length*4000004:=by
 induction l with
 |nil=>intro o;simp
 |cons p r ih=>
  intro o;obtain⟨a,b⟩:=h p (by simp);have:=ih (λq c=>h q (by simp[c])) (mJ o p);have:=QN o p a b;simp only[List.foldl_cons,llc];omega
theorem yG {s:Bk}{nm:ByteArray}{t:List Bx}{a:Int}{l:List Sp}(h:eL s nm t a l):∀p∈l,0<=p.lo/\p.lo<=2000000/\0<=p.hi/\p.hi<=2000000:=λp d=>by
 cases e:dA s t a with
 |false=>rw[h.2 e]at d;cases d
 |true=>
  have hm:a<=300:=by
   simp only[dA,bat,dte]at e;exact e.1.2
  obtain⟨f,_⟩:=h.1 e;have h1:=f.b p d;have h2:=f.c.ne p d;omega
theorem EV {s:Bk}{nm:ByteArray}{t:List Bx}{a d:Int}(h:eA s nm t a (some d)):0<=d/\d<=2000000:=by
 cases e:dA s t a with
 |false=>have:=h.2 e;cases this
 |true=>
  have hm:a<=300:=by
   simp only[dA,bat,dte]at e;exact e.1.2
  have:=h.1 e;exact⟨this.1,by have:=this.2.1;omega⟩
def ZX (D:Nat)(b:Bk)(nm:ByteArray)(tv:Value)(most:Int)(j:Nat)(v:Value)(_w:World):Prop:=
 match j with
 |0|1|5|6=>v=.pointer (some ⟨D,0,none⟩)
 |2=>v=.pointer (some ⟨D,0,none⟩)
 |3=>v=b.val
 |4=>v=.string nm
 |7=>v=.pointer (some ⟨D,3,none⟩)
 |8=>v=tv
 |9=>v=.int .i64 most
 |_=>True
def XT (D:Nat)(b:Bk)(nm:ByteArray)(tv:Value)(most:Int)(o:Option Int)(E:Prop)(j:Nat)(v:Value)(_w:World):Prop:=
 match j with
 |0|1|5|6=>v=.pointer (some ⟨D,0,none⟩)
 |2=>v=.pointer (some ⟨D,0,none⟩)
 |3=>v=b.val
 |4=>v=.string nm
 |7=>v=.pointer (some ⟨D,3,none⟩)
 |8=>v=tv
 |9=>v=.int .i64 most
 |10=>v=.tuple #[.int .i64 (o.getD 0),.bool o.isSome]/\E
 |11=>v=.tuple #[.int .i64 (o.getD 0),.bool o.isSome]
 |12|14=>v=.int .i64 (o.getD 0)
 |13=>v=.bool o.isSome
 |_=>True
def ZD (g off n cap k:Nat)(p:Sp)(s0 s1 s2 s3 s4 s5 s6:ByteArray)(j:Nat)(v:Value)(_w:World):Prop:=
 match j with
 |0=>v=.string s0
 |1|9=>v=.slice (some ⟨g,off,none⟩) n cap
 |2|10=>v=.int .i64 (k:Int)
 |3|4|11=>v=.pointer (some ⟨g,off+k*2,none⟩)
 |5=>v=.int .i64 p.lo
 |6=>v=.string s1
 |7=>v=.string s2
 |8=>v=.string s3
 |12=>v=.pointer (some ⟨g,off+k*2+1,none⟩)
 |13=>v=.int .i64 p.hi
 |14=>v=.string s4
 |15=>v=.string s5
 |16=>v=.string s6
 |_=>True
theorem I5 (o:Option Int):dY o=.tuple #[.int .i64 (o.getD 0),.bool o.isSome]:=by cases o<;>rfl
theorem RL (D:Nat)(w:World)(s:St)(b:Bk)(ta:Option Addr)(S k:Nat)(nm:ByteArray)(a:Int)(H:nU D w s b ta S)(F:iP k s)(hk:k<=1048576):
 aY 23 #[.pointer (some ⟨D,0,none⟩),.string nm,.int .i64 a] w λe w'=>e=.returned (.string (mS s.b nm s.t a))/\aF w w':=by
 go_enter Tryz.func23,Tryz.ntmps23
 go_upto_region 2 with fail
 refine pG 10 [some 12,some 13,some 14,some 15,some 16,some 17,some 18,some 19,some 20,some 21] (ZX D b nm (.slice ta s.t.length S) a) (λ_ _ _ _ h _=>h) ?step ?fin
 case step=>
  intro ii o i w' B l n j;obtain⟨zj,zk,zo,zp⟩:=(H.zL n).c
  match ii,B with
  |1,_|2,_|3,_|6,_|7,_|8,_=>
   simp at l;subst l
   simp[Region.binds,ZX]at j
   simp only[aE,Act.put,j];gi_wp2;exact⟨_,by simp[aH,j],rfl,br _ _⟩
  |0,_|4,_|5,_|9,_=>
   simp at l;subst l;simp only[aE,Act.put];gi_wp2;exact⟨_,by simp[aH],rfl,br _ _⟩
  |q+10,h=>exact absurd h (by omega)
 case fin=>
  intro i w8 n f;have K:i 3=b.val:=f 3 (by decide);have M:i 4=.string nm:=f 4 (by decide);have e8:i 8=.slice ta s.t.length S:=f 8 (by decide);have e9:i 9=.int .i64 a:=f 9 (by decide);have E:Hid _:=H.zL n;have r:=aG n;clear f n H;simp only[lds,List.drop_zero,aE,Act.put];rw[K,M,e8,e9];clear K M e8 e9;generalize i=i;gi_wp2_with fail
  refine⟨trivial,rfl,?_⟩;refine(cw.2 (PO E.oQ.b F.b nm s.t ta S a E.oQ.tb (by have:=F.t;omega))).mono ?_;rintro e w9 ⟨⟨v,rfl,hO,hI⟩,u⟩;obtain⟨L,hL⟩:=bP (nR s.b nm s.t a);rw[←hL]at hO hI;have HL:=aG hL;have Q:=yG hI;have hl3:=hI.len;clear hL hI;obtain⟨ao,cp,rfl⟩:=bQ.slice hO;have Y:Hid (Xs 2 Sp.cells w9 ao L):=bQ.xs (c:=Sp.cells) (sz:=2) (t:=98) (λ_=>rfl) hO;have C:=aG (aC r.oQ u);have X:Hid _:=E.oQ.zL u;clear hO u E r;gi_wp2_with fail
  go_wp2
  obtain⟨W9,hW9⟩:=bP w9
  go_loopw [7,9] (λov iv wr=>∃k:Nat,k<=L.length/\ov=.string ((L.take k).foldl mJ ⟨#[]⟩)/\iv=.int .i64 k/\aF w9 wr) (λ_ iv _=>L.length-(intOf iv).toNat)
  case atStart=>exact⟨0,nz _,rfl,rfl,br _ _⟩
  case round=>
   obtain⟨k,hk,rfl,rfl,T⟩:=hrel;have G:=wK (L.take k) (λp f=>⟨(Q p (List.mem_of_mem_take f)).2.1,(Q p (List.mem_of_mem_take f)).2.2.2⟩) ⟨#[]⟩;have I:(L.take k).length<=301:=by rw[List.length_take];omega
   have zi:(ByteArray.mk #[]).size=0:=rfl
   by_cases x:k<L.length
   ·have zb:(k:Int)<(L.length:Int):=by omega
    rcases Y.oQ.zL T with h|⟨g,R,zl,P⟩
    ·rw[h]at x;simp at x
    subst zl;have k0:wr.cell? ⟨g,R+k*2,none⟩=some (.int .i64 L[k].lo):=P k x 0 _ rfl;have k1:wr.cell? ⟨g,R+k*2+1,none⟩=some (.int .i64 L[k].hi):=P k x 1 _ rfl;obtain⟨zd,ze,zf,zg⟩:=Q _ (lgm x);have m:(L.take (k+1)).foldl mJ ⟨#[]⟩=mJ ((L.take k).foldl mJ ⟨#[]⟩) L[k]:=by rw[List.take_succ_eq_append_getElem x,List.foldl_append];rfl
    obtain⟨s0,zh⟩:∃s,s=(L.take k).foldl mJ ⟨#[]⟩:=⟨_,rfl⟩;obtain⟨p,f⟩:=bP (L[k]);rw[←zh]at m G ⊢;rw[←f]at m k0 k1 zd ze zf zg;clear zh f P;obtain⟨U,e1⟩:∃s,s=dD p.lo:=⟨_,rfl⟩;obtain⟨s2,e2⟩:∃s,s=s0++U:=⟨_,rfl⟩;obtain⟨s3,K⟩:∃s,s=s2++⟨#[45]⟩:=⟨_,rfl⟩;obtain⟨V,M⟩:∃s,s=dD p.hi:=⟨_,rfl⟩;obtain⟨s5,e5⟩:∃s,s=s3++V:=⟨_,rfl⟩;obtain⟨s6,e6⟩:∃s,s=s5++⟨#[32]⟩:=⟨_,rfl⟩;have z1:U.size<=2000001:=by rw[e1];exact bG ze
    have z2:s2.size=s0.size+U.size:=by rw[e2,ByteArray.size_append]
    have z3:s3.size=s2.size+1:=by rw[K,ByteArray.size_append];rfl
    have z4:V.size<=2000001:=by rw[M];exact bG zg
    have z5:s5.size=s3.size+V.size:=by rw[e5,ByteArray.size_append]
    have g2:¬9223372036854775807<s0.size+U.size:=by omega
    have g3:¬9223372036854775807<s2.size+1:=by omega
    have g5:¬9223372036854775807<s3.size+V.size:=by omega
    have g6:¬9223372036854775807<s5.size+1:=by omega
    have HT:Hid ((L.take (k+1)).foldl mJ ⟨#[]⟩=s6):=by rw[Hid,m,mJ,←e1,←M];show s0++U++⟨#[45]⟩++V++⟨#[32]⟩=s6;rw[←e2,←K,←e5,←e6]
    have E1:Hid _:=e1;have E4:Hid _:=M;have e2':=e2.symm;have e3':=K.symm;have e5':=e5.symm;have e6':=e6.symm;clear z1 z2 z3 z4 z5 e1 e2 K M e5 e6 m G I zi
    go_upto_region 6 with fail
    refine pG 17 [some 29,some 30,some 31,some 32,some 33,some 34,some 35,some 36,some 37,some 38,some 39,some 40,some 41,some 42,some 43,some 44,some 45] (ZD g R L.length cp k p s0 U s2 s3 V s5 s6) (λ_ _ _ _ h _=>h) ?step ?fin
    case step=>
     intro ii o i w' B l n j;have zj:=(n.cell (aA k0)).trans k0;have zk:=(n.cell (aA k1)).trans k1
     match ii,B with
     |3,_|4,_|5,_|7,_|8,_|11,_|12,_|13,_|15,_|16,_=>
      simp at l;subst l
      simp[Region.binds,ZD]at j
      simp only[aE,Act.put,j];gi_wp2;exact⟨_,by simp[aH,j],rfl,br _ _⟩
     |0,_|1,_|2,_|9,_|10,_=>
      simp at l;subst l;simp only[aE,Act.put];gi_wp2;exact⟨_,by simp[aH],rfl,br _ _⟩
     |6,_=>
      simp at l;subst l
      simp[Region.binds,ZD]at j
      simp only[aE,Act.put,j];gi_wp2_with fail
      refine⟨trivial,rfl,?_⟩;refine(cw.2 (mR p.lo w' zd (by omega))).mono ?_;rintro e w5 ⟨rfl,A⟩;rw[←E1.out];gi_wp2;exact⟨_,by simp[aH,j],rfl,A⟩
     |14,_=>
      simp at l;subst l
      simp[Region.binds,ZD]at j
      simp only[aE,Act.put,j];gi_wp2_with fail
      refine⟨trivial,rfl,?_⟩;refine(cw.2 (mR p.hi w' zf (by omega))).mono ?_;rintro e w5 ⟨rfl,A⟩;rw[←E4.out];gi_wp2;exact⟨_,by simp[aH,j],rfl,A⟩
     |q+17,h=>exact absurd h (by omega)
    case fin=>
     intro i w8 n f;have Z:i 16=.string s6:=f 16 (by decide);have r:=aG n;clear f n;simp only[lds,List.drop_zero,aE,Act.put];rw[Z];clear Z;generalize i=i;gi_wp2_with fail
     go_wp2
     go_roundw
     case rel=>exact⟨k+1,by omega,by rw[HT.oQ],by go_num,aC T r.oQ⟩
     case measure=>simp[intOf];omega
   ·have zb:¬(k:Int)<(L.length:Int):=by omega
    have za:L.take k=L:=ltl (by omega);rw[za]at G I ⊢;clear za;obtain⟨O,N⟩:=bP (L.foldl mJ ⟨#[]⟩);rw[←N]at G ⊢;have W:=aG N;clear N;have H:nU D wr s b ta S:=X.oQ.zL T;obtain⟨o,zc⟩:=bP (pN s.b nm s.t a);have HO:=aG zc;clear zc Y
    replace T:aF w wr:=aC C.oQ T
    clear X C
    go_upto_region 7 with fail
    refine pG 15 [some 47,some 48,some 49,some 50,some 51,some 52,some 53,some 54,some 55,some 56,some 57,some 46,some 58,some 59,some 10] (XT D b nm (.slice ta s.t.length S) a o (eA s.b nm s.t a o)) (λ_ _ _ _ h _=>h) ?step ?fin
    case step=>
     intro ii o i w' B l n j;obtain⟨zj,zk,zo,zp⟩:=(H.zL n).c
     match ii,B with
     |1,_|2,_|3,_|6,_|7,_|8,_|11,_|12,_|13,_|14,_=>
      simp at l;subst l
      simp[Region.binds,XT]at j
      simp only[aE,Act.put,j];gi_wp2;exact⟨_,by simp[aH,j],rfl,br _ _⟩
     |0,_|4,_|5,_|9,_=>
      simp at l;subst l;simp only[aE,Act.put];gi_wp2;exact⟨_,by simp[aH],rfl,br _ _⟩
     |10,_=>
      simp at l;subst l
      simp[Region.binds,XT]at j
      simp only[aE,Act.put,j];gi_wp2_with fail
      refine⟨trivial,rfl,?_⟩;refine(cw.2 (PI (H.zL n).b F.b nm s.t ta S a (H.zL n).tb (by have:=F.t;omega))).mono ?_;rintro e w5 ⟨⟨rfl,hE⟩,A⟩;rw[←HO.oQ]at hE;rw[←HO.oQ,I5];have HE:=aG hE;clear hE;gi_wp2;exact⟨_,by simp[aH,j],⟨rfl,HE.oQ⟩,A⟩
     |q+15,h=>exact absurd h (by omega)
    case fin=>
     intro i w8 n f;have HE:Hid (eA s.b nm s.t a o):=(f 10 (by decide)).2;have r:=aG (aC T n);clear n H
     cases o with
     |none=>
      have y:i 13=.bool false:=f 13 (by decide);have z:i 14=.int .i64 0:=f 14 (by decide);clear f;simp only[lds,List.drop_zero,aE,Act.put];rw[y,z];clear y z;generalize i=i;have J:Hid (mS s.b nm s.t a=O++⟨#[110,101,118,101,114]⟩):=by rw[Hid,mS,←HO.oQ,←HL.oQ,←W.oQ];rfl
      have g1:¬9223372036854775807<O.size+5:=by omega
      gi_wp2_with fail
      go_wp2
      go_ret;exact⟨by rw[J.oQ];rfl,r.oQ⟩
     |some d=>
      have y:i 13=.bool true:=f 13 (by decide);have z:i 14=.int .i64 d:=f 14 (by decide);clear f;simp only[lds,List.drop_zero,aE,Act.put];rw[y,z];clear y z;generalize i=i;obtain⟨zm,zn⟩:=EV HE.oQ;have J:Hid (mS s.b nm s.t a=O++⟨#[102,114,101,101,32]⟩++dD d):=by rw[Hid,mS,←HO.oQ,←HL.oQ,←W.oQ];rfl
      have g1:¬9223372036854775807<O.size+5:=by omega
      have hds:=bG zn;have g2:¬9223372036854775807<O.size+5+(dD d).size:=by omega
      gi_wp2_with fail
      go_wp2_with fail
      refine(mR d w8 zm (by omega)).mono ?_;rintro e w9 ⟨rfl,u⟩;have C:=aG (aC r.oQ u);clear u;go_wp2
      go_ret;exact⟨by rw[J.oQ];rfl,C.oQ⟩
theorem lN {l:List Bx}(hn:l.length<=40)(h:∀b∈l,b.i<=2000000/\b.o<=2000000):(iG l).size<=6000005:=by
 cases l with
 |nil=>show(⟨#[45]⟩:ByteArray).size<=_;decide
 |cons b r=>
  have h1:=bG (n:=((b::r).length:Int)) (by omega);have h2:=bG (h b (by simp)).1;have h3:=bG (h _ (List.getLast_mem (l:=b::r) (by simp))).2;have a:(⟨#[64]⟩:ByteArray).size=1:=rfl;have c:(⟨#[45]⟩:ByteArray).size=1:=rfl;simp only[iG,ByteArray.size_append,a,c];omega
theorem qW {l:List Bx}(h:∀y∈l,aK y=true):∀b∈l,0<=b.i/\b.i<=2000000/\0<=b.o/\b.o<=2000000:=λb a=>by
 have:=h b a;simp only[aK,dte]at this;omega
theorem oD {l:List Bx}(h:∀y∈l,aK y=true):∀b∈l,b.i<=2000000/\b.o<=2000000:=λb a=>⟨(qW h b a).2.1,(qW h b a).2.2.2⟩
theorem LN (o:ByteArray){h:Hx}(h1:(iG h.tl).size<=6000005)(h2:(iG h.nl).size<=6000005)(h3:h.n.size<=8):(mC o h).size<=o.size+12000021:=by
 have a:XW.size=1:=rfl;have b:(⟨#[58]⟩:ByteArray).size=1:=rfl;have c:(⟨#[47]⟩:ByteArray).size=1:=rfl;simp only[mC,ByteArray.size_append,a,b,c];omega
theorem zR (l:List Hx)(h:∀x∈l,(iG x.tl).size<=6000005/\(iG x.nl).size<=6000005/\x.n.size<=8):∀o:ByteArray,(l.foldl mC o).size<=o.size+l.length*12000021:=by
 induction l with
 |nil=>intro o;simp
 |cons p r ih=>
  intro o;obtain⟨a,b,c⟩:=h p (by simp);have:=ih (λq d=>h q (by simp[d])) (mC o p);have:=LN o a b c;simp only[List.foldl_cons,llc];omega
theorem zY {s b:Bk}(h:KE s.now s.fl s.hl b):qD b=qD s:=by
 have e:∀(l:List Hx) (o:ByteArray),l.foldl mC o=(l.map (λx=>(x.n,x.tl,x.nl))).foldl (λo k=>o++XW++k.1++⟨#[58]⟩++iG k.2.1++⟨#[47]⟩++iG k.2.2) o:=λl o=>by rw[List.foldl_map];rfl
 unfold qD;rw[e,e,h.now,h.lk.map (λx=>(x.n,x.tl,x.nl)) (λa b g=>by simp[g.n,g.t,g.x])]
def ZC (H:Nat)(x:Hx)(s0 s1 s2 s3 s4 s5 s6 s7 s8:ByteArray)(j:Nat)(v:Value)(_w:World):Prop:=
 match j with
 |0=>v=.string s0
 |1=>v=.string s1
 |2=>v=.pointer (some ⟨H,0,none⟩)
 |3=>v=.string x.n
 |4=>v=.string s2
 |5=>v=.string s3
 |6=>v=.pointer (some ⟨H,1,none⟩)
 |7=>v=.slice x.ta x.tl.length x.tc
 |8=>v=.string s4
 |9=>v=.string s5
 |10=>v=.string s6
 |11=>v=.pointer (some ⟨H,2,none⟩)
 |12=>v=.slice x.na x.nl.length x.nc
 |13=>v=.string s7
 |14=>v=.string s8
 |_=>True
theorem QO (D:Nat)(w:World)(s:St)(b:Bk)(ta:Option Addr)(tc k:Nat)(O:nU D w s b ta tc)(zo:iP k s):
 aY 21 #[.pointer (some ⟨D,0,none⟩)] w λe w'=>e=.returned (.string (qD s.b))/\aF w w':=by
 have F:aN b=true:=O.b.book.trans zo.b;have I:=uJ F;have h16:=lS F
 have Z:0<=b.now/\b.now<=10000:=by
  have:=(eN.1 F).1
  rwa[nT,dte]at this
 have m:∀x∈b.hl,(iG x.tl).size<=6000005/\(iG x.nl).size<=6000005/\x.n.size<=8:=λx hx=>by
  obtain⟨_,h1,h2,h3,h4,h5⟩:=I x hx;exact⟨lN h1 (oD h4),lN h2 (oD h5),h3⟩
 have zi:=aG (zY O.b.c);obtain⟨c0,c1,c2,c3⟩:=O.c;clear F
 go_enter Tryz.func21,Tryz.ntmps21
 go_wp2_with fail
 refine(mR b.now w Z.1 (by omega)).mono ?_;rintro e w1 ⟨rfl,f⟩;have hdn:=bG (n:=b.now) (by omega)
 replace O:=O.zL f
 have zf:=aG f;clear f c0 c1 c2 c3;go_wp2
 go_loopw [3,4] (λov iv wr=>∃k:Nat,k<=b.hl.length/\ov=.string ((b.hl.take k).foldl mC (dD b.now))/\iv=.int .i64 k/\aF w wr/\aF w1 wr) (λ_ iv _=>b.hl.length-(intOf iv).toNat)
 case atStart=>exact⟨0,nz _,rfl,rfl,zf.oQ,br _ _⟩
 case round=>
  obtain⟨k,hk,rfl,rfl,hN,T⟩:=hrel;have N:=zR (b.hl.take k) (λp hp=>m p (List.mem_of_mem_take hp)) (dD b.now);have K:(b.hl.take k).length<=16:=by rw[List.length_take];omega
  have L:=O.zL T;obtain⟨c0,c1,c2,c3⟩:=L.c
  by_cases d:k<b.hl.length
  ·have Y:(k:Int)<(b.hl.length:Int):=by omega
   have l:=L.b.inn
   rcases l.h with h|⟨g,off,zj,W⟩
   ·rw[h]at d;simp at d
   rw[zj]at c2;obtain⟨q0,q1,q2⟩:=iI (W k d);obtain⟨_,zl,zm,zn,f,V⟩:=I _ (lgm d);obtain⟨zb,zc,_⟩:=m _ (lgm d);have j:=l.i _ (lgm d);have a:(b.hl.take (k+1)).foldl mC (dD b.now)=mC ((b.hl.take k).foldl mC (dD b.now)) b.hl[k]:=by rw[List.take_succ_eq_append_getElem d,List.foldl_append];rfl
   obtain⟨s0,za⟩:∃s,s=(b.hl.take k).foldl mC (dD b.now):=⟨_,rfl⟩;obtain⟨x,hx⟩:=bP (b.hl[k]);rw[←za]at a N ⊢;rw[←hx]at a q0 q1 q2 zl zm zn f V zb zc j;clear za hx W l L;obtain⟨s1,r⟩:∃s,s=s0++(⟨#[32]⟩:ByteArray):=⟨_,rfl⟩;obtain⟨s2,t⟩:∃s,s=s1++x.n:=⟨_,rfl⟩;obtain⟨s3,u⟩:∃s,s=s2++(⟨#[58]⟩:ByteArray):=⟨_,rfl⟩;obtain⟨P,v⟩:∃s,s=iG x.tl:=⟨_,rfl⟩;obtain⟨s5,y⟩:∃s,s=s3++P:=⟨_,rfl⟩;obtain⟨s6,z⟩:∃s,s=s5++(⟨#[47]⟩:ByteArray):=⟨_,rfl⟩;obtain⟨Q,A⟩:∃s,s=iG x.nl:=⟨_,rfl⟩;obtain⟨s8,B⟩:∃s,s=s6++Q:=⟨_,rfl⟩;have zp:s1.size=s0.size+1:=by rw[r,ByteArray.size_append];rfl
   have zq:s2.size=s1.size+x.n.size:=by rw[t,ByteArray.size_append]
   have zr:s3.size=s2.size+1:=by rw[u,ByteArray.size_append];rfl
   have zs:P.size<=6000005:=by rw[v];exact zb
   have zt:s5.size=s3.size+P.size:=by rw[y,ByteArray.size_append]
   have zu:s6.size=s5.size+1:=by rw[z,ByteArray.size_append];rfl
   have zv:Q.size<=6000005:=by rw[A];exact zc
   have zw:s8.size=s6.size+Q.size:=by rw[B,ByteArray.size_append]
   have gs1:¬9223372036854775807<s0.size+1:=by omega
   have gs2:¬9223372036854775807<s1.size+x.n.size:=by omega
   have gs3:¬9223372036854775807<s2.size+1:=by omega
   have gs5:¬9223372036854775807<s3.size+P.size:=by omega
   have gs6:¬9223372036854775807<s5.size+1:=by omega
   have gs8:¬9223372036854775807<s6.size+Q.size:=by omega
   have HT:Hid ((b.hl.take (k+1)).foldl mC (dD b.now)=s8):=by rw[Hid,a,mC,←v,←A];show s0++⟨#[32]⟩++x.n++⟨#[58]⟩++P++⟨#[47]⟩++Q=s8;rw[←r,←t,←u,←y,←z,←B]
   have fs1:=r.symm;have fs2:=t.symm;have fs3:=u.symm;have zd:=aG v;have fs5:=y.symm;have fs6:=z.symm;have ze:=aG A;have fs8:=B.symm;clear r zp t zq u zr v zs y zt z zu A zv B zw a N K;have k0:(wr.alloc (.cells #[.string x.n,.slice x.ta x.tl.length x.tc,.slice x.na x.nl.length x.nc] 90)).cell? ⟨wr.heap.size,0,none⟩=some (.string x.n):=aJ (wnq wr _) rfl;have k1:(wr.alloc (.cells #[.string x.n,.slice x.ta x.tl.length x.tc,.slice x.na x.nl.length x.nc] 90)).cell? ⟨wr.heap.size,1,none⟩=some (.slice x.ta x.tl.length x.tc):=aJ (wnq wr _) rfl;have k2:(wr.alloc (.cells #[.string x.n,.slice x.ta x.tl.length x.tc,.slice x.na x.nl.length x.nc] 90)).cell? ⟨wr.heap.size,2,none⟩=some (.slice x.na x.nl.length x.nc):=aJ (wnq wr _) rfl;have E:aF wr (wr.alloc (.cells #[.string x.n,.slice x.ta x.tl.length x.tc,.slice x.na x.nl.length x.nc] 90)):=aB (br _ _) _;have R:=aG (aC hN E);have H:=aG (aC T E)
   replace j:=Hx.In.zL j E
   clear E
   go_upto_region 6 with fail
   obtain⟨W1,U⟩:=cK (wr.alloc (.cells #[.string x.n,.slice x.ta x.tl.length x.tc,.slice x.na x.nl.length x.nc] 90));rw[U]at k0 k1 k2 R H j ⊢;clear U q0 q1 q2 c0 c1 c2 c3;refine pG 15 [some 30,some 31,some 32,some 33,some 34,some 35,some 36,some 37,some 38,some 39,some 40,some 41,some 42,some 43,some 44] (ZC wr.heap.size x s0 s1 s2 s3 P s5 s6 Q s8) (λ_ _ _ _ h _=>h) ?step ?fin
   case step=>
    intro ii o vs w' zk J C G;have z0z:=(C.cell (aA k0)).trans k0;have z1z:=(C.cell (aA k1)).trans k1;have z2z:=(C.cell (aA k2)).trans k2
    match ii,zk with
    |1,_|3,_|4,_|5,_|7,_|9,_|10,_|12,_|14,_=>
     simp at J;subst J
     simp[Region.binds,ZC]at G
     simp only[aE,Act.put,G];gi_wp2;exact⟨_,by simp[aH,G],rfl,br _ _⟩
    |0,_|2,_|6,_|11,_=>
     simp at J;subst J;simp only[aE,Act.put];gi_wp2;exact⟨_,by simp[aH],rfl,br _ _⟩
    |8,_=>
     simp at J;subst J
     simp[Region.binds,ZC]at G
     simp only[aE,Act.put,G];gi_wp2_with fail
     refine⟨trivial,rfl,?_⟩;refine(cw.2 (BJ x.tl x.ta x.tc w' (j.1.zL C) (by omega) (qW f))).mono ?_;rintro e w5 ⟨rfl,M⟩;rw[←zd.out];gi_wp2;exact⟨_,by simp[aH,G],rfl,M⟩
    |13,_=>
     simp at J;subst J
     simp[Region.binds,ZC]at G
     simp only[aE,Act.put,G];gi_wp2_with fail
     refine⟨trivial,rfl,?_⟩;refine(cw.2 (BJ x.nl x.na x.nc w' (j.2.zL C) (by omega) (qW V))).mono ?_;rintro e w5 ⟨rfl,M⟩;rw[←ze.out];gi_wp2;exact⟨_,by simp[aH,G],rfl,M⟩
    |q+15,h=>exact absurd h (by omega)
   case fin=>
    intro vs w8 C hp;have S:vs 14=.string s8:=hp 14 (by decide);have zg:=aG (aC R.oQ C);have zh:=aG (aC H.oQ C);clear hp C;simp only[lds,List.drop_zero,aE,Act.put];rw[S];clear S;generalize vs=vs;gi_wp2_with fail
    go_wp2
    go_roundw
    case rel=>exact⟨k+1,by omega,by rw[HT.oQ],by go_num,zg.oQ,zh.oQ⟩
    case measure=>simp[intOf];omega
  ·have Y:¬(k:Int)<(b.hl.length:Int):=by omega
   have X:b.hl.take k=b.hl:=ltl (by omega);rw[X];clear X N K;go_wp2
   go_ret;exact⟨by rw[←zi.oQ];rfl,hN⟩
theorem eF.butT {z P t:Nat}{w w':World}{b:Bk}{l:Array Value}(h:eF z w b)(g:aT (λk=>k=P) w w')(s:w.heap[P]?=some (.cells l t))(m:74≠t)(o:90≠t)(p:56≠t):eF z w' b:=by
 have i:∀{t' n:Nat} {f:Nat->Value},t'≠t->w.rowIs P t' n f->False:=λv d=>by
  obtain⟨c,j,_⟩:=d;rw[s]at j;cases j;exact v rfl
 refine⟨h.f.butRow g (λk _ _ _ d e=>by have a:k=P:=e;subst a;exact i m d),h.h.butRow g (λk _ _ _ d e=>by have a:k=P:=e;subst a;exact i o d),λx hx=>(h.t x hx).but g (λq u e=>?_),h.c⟩;have a:q=P:=e;subst a;obtain⟨_,_,r⟩:=(h.t x hx).bs_row q u;exact i p r
theorem PP {S:Nat->Prop}{w:World}{s b:Bk}{x d:Wx}(h:dZ S w s b)(f:aN s=true)(hx:iL w d)(p:qK x d):
 aY 40 #[b.val,d.val] w λe w'=>(∃b',e=.returned (.tuple #[Bk.val b',gX s (decide (0<=j8 s.hl x.n)) x,.int .i64 (dL s x)])/\KE s.now s.fl (eU s x) b'/\eF w.heap.size w' b')/\aF w w':=by
 refine(FV b d w (h.ok f) (h.asks f) hx).mono ?_;rintro e w' ⟨o,g⟩;refine⟨?_,g⟩;obtain⟨q,r,i⟩:=DX (b:=s) (b1:=b) h.c.now h.c.fl h.c.lk d;obtain⟨t,u,v⟩:=C9 p s;rcases o with⟨a,_⟩|⟨_,b',rfl,j,k,l,m⟩;·rw[h.book,f]at a;cases a
 ·exact⟨b',by rw[q,r,t,u],⟨j.trans h.c.now,k.trans h.c.fl,by rw[v]at i;exact i.trans l⟩,m⟩
abbrev f8 (w:World)(D:Nat)(b:Bk):World:=((w.setCell ⟨D,0,none⟩ (.int .i64 b.now)).setCell ⟨D,1,none⟩ (.slice b.fa b.fl.length b.fc)).setCell ⟨D,2,none⟩ (.slice b.ha b.hl.length b.hc)
theorem dC (w:World)(D:Nat)(b:Bk):aT (λk=>k=D) w (f8 w D b):=(((aT.refl (λk=>k=D) w).set (g:=D) rfl _ _).set (g:=D) rfl _ _).set (g:=D) rfl _ _
theorem nU.put {D:Nat}{w:World}{s:St}{b:Bk}{ta:Option Addr}{d:Nat}(h:nU D w s b ta d){c b':Bk}(a:dZ (λk=>k=D) w c b'):nU D (f8 w D b') ⟨c,s.t⟩ b' ta d:=by
 refine⟨?_,a.but (dC w D b'),λj e=>h.t j ((dC w D b').trans e)⟩;have f:=aO h.o 0 (.int .i64 b'.now);have g:=aO f 1 (.slice b'.fa b'.fl.length b'.fc);have i:=aO g 2 (.slice b'.ha b'.hl.length b'.hc);exact i
def OP (D:Nat)(w:World)(r:St×ByteArray)(e:Ending)(w':World):Prop:=(∃b ta tc,nU D w' r.1 b ta tc)/\e=.returned (.string r.2)/\aT (λk=>k=D) w w'
theorem nU.fz {D:Nat}{w:World}{s:St}{b:Bk}{ta:Option Addr}{a:Nat}(h:nU D w s b ta a):∀i,w.frozen? ⟨D,i,none⟩=false:=λi=>by simp[World.frozen?,h.o]
theorem rQ (D:Nat)(w:World)(s:St)(b:Bk)(ta:Option Addr)(q:Nat)(p:nU D w s b ta q)(m b':Bk)(l:dZ (λk=>k=D) w m b')(c:Int)(n:0<=c)(o:c<=2000000):
 aY 17 #[.pointer (some ⟨D,0,none⟩),b'.val,.int .i64 c] w λe w'=>OP D w (⟨m,s.t⟩,iK c) e w':=by
 have d:aF w (w.alloc b'.obj):=aB (br _ _) _;have a:=(p.zL d);have HP:=aG (a.put (l.zL d));have h:Hid (aT (λk=>k=D) w (f8 (w.alloc b'.obj) D b')):=(aT.below d).trans (dC _ D b');obtain⟨W0,g⟩:=cK (w.alloc b'.obj);rw[g]at a HP h;obtain⟨c0,c1,c2,c3⟩:=a.c;have cf:=a.fz;obtain⟨k0,k1,k2⟩:=aM (by rw[←g];exact wnq w _);clear d a;go_enter Tryz.func17,Tryz.ntmps17;go_wp2_with fail;refine(AT c _ n o).mono ?_;rintro e w2 ⟨rfl,f⟩;have j:Hid _:=HP.oQ.zL f;have i:Hid _:=h.oQ.trans (aT.below f);clear f HP h;go_wp2;go_ret;exact⟨⟨_,_,_,j.oQ⟩,rfl,i.oQ⟩
theorem bW (l:List ByteArray)(a:Option Addr)(c:Nat)(w:World)(n:Xs 1 dS w a l)(o:l.length<=1048576):
 aY 13 #[.slice a l.length c] w λe w'=>(∃v,e=.returned (.tuple #[v,.bool (jG l)])/\(jG l=true->∃g k,v=.slice g (aS l).length k/\Xs 1 eW w' g (aS l)))/\aF w w':=by
 refine(rV l a c w n o).mono ?_;rintro e w' ⟨⟨d,v,rfl,p⟩|⟨b,v,rfl⟩,i⟩
 ·obtain⟨j,m,rfl,f⟩:=pC (eC l).symm p;exact⟨⟨_,by rw[o9 d],λ_=>⟨j,m,rfl,f⟩⟩,i⟩
 ·exact⟨⟨v,by rw[qO b],λh=>by rw[qO b]at h;cases h⟩,i⟩
theorem VX (l:List ByteArray)(a:Option Addr)(b:Nat)(w:World)(j:Xs 1 dS w a l)(k:l.length<=1048576)(m:∀x∈l,x.size<=1048575):
 aY 39 #[.slice a l.length b] w λe w'=>(∃v,e=.returned (.tuple #[v,.bool (fI l).isSome])/\∀d,fI l=some d->SJ w.heap.size w' v d)/\aF w w':=by
 refine(LE l a b w j k m).mono ?_;rintro e w' ⟨⟨d,c,v,rfl,i⟩|⟨c,v,rfl⟩,g⟩;·exact⟨⟨v,by rw[c];rfl,λf h=>by rw[c]at h;cases h;exact i⟩,g⟩
 ·exact⟨⟨v,by rw[c];rfl,λf h=>by rw[c]at h;cases h⟩,g⟩
theorem JH {d g:List (List Cx)}{s:ByteArray}(h:iM (some d) s=some g){a b:Nat}(h1:d.length<=a)(i:∀c∈d,c.length<=b):g.length<=a+1/\∀c∈g,c.length<=b+1:=by
 simp only[iM,Option.bind_some]at h;split at h
 ·cases h;refine⟨by simp;omega,λc f=>?_⟩;rcases lma.1 f with f|f;·have:=i c f;omega
  ·rw[List.mem_singleton.1 f];simp
 ·split at h
  ·split at h
   ·cases h;refine⟨by simp;omega,λc f=>?_⟩;rcases lma.1 f with f|f;·have:=i c ((List.dropLast_sublist _).subset f);omega
    ·rw[List.mem_singleton.1 f,List.length_append]
     have:(d.getLastD []).length<=b:=by
      cases e:d.getLast? with
      |none=>rw[List.getLastD_eq_getLast?,e];simp
      |some c0=>rw[List.getLastD_eq_getLast?,e];exact i c0 (List.mem_of_getLast? e)
     show(d.getLastD []).length+1<=_;omega
   ·cases h
  ·cases h
theorem zJ:∀(l:List ByteArray) (d f:List (List Cx)) (a b:Nat),l.foldl iM (some d)=some f->d.length<=a->(∀c∈d,c.length<=b)->f.length<=a+l.length/\∀c∈f,c.length<=b+l.length
 |[],d,f,a,b,h,h1,h2=>by cases h;exact⟨h1,h2⟩
 |s::r,d,f,a,b,h,h1,h2=>by
  rw[List.foldl_cons]at h;cases e:iM (some d) s with
  |none=>rw[e,KP]at h;cases h
  |some cs1=>
   rw[e]at h;obtain⟨g,i⟩:=JH e h1 h2;obtain⟨q1,k⟩:=zJ r cs1 f (a+1) (b+1) h g i;exact⟨by simp;omega,λc j=>by have:=k c j;simp;omega⟩
theorem ws9 {d:List ByteArray}(h:8<d.length):∃n nm q c f a l b y e,d=n::nm::q::c::f::a::l::b::y::e:=by
 match d,h with
 |n::nm::q::c::f::a::l::b::y::e,_=>exact⟨n,nm,q,c,f,a,l,b,y,e,rfl⟩
theorem i7 {w:World}{f b:Nat}{d:List ByteArray}(m:Xs 1 dS w (some ⟨f,b,none⟩) d)(i:Nat)(p l r:List ByteArray)(c:d=p++(l++r))(q:p.length=i):Xs 1 dS w (some ⟨f,b+i,none⟩) l:=by
 rcases m with h|⟨bb,oo,e,n⟩
 ·rw[h]at c
  have:l=[]:=by
   cases l with
   |nil=>rfl
   |cons a t=>simp at c
  exact .inl this
 ·cases e;refine .inr ⟨f,b+i,rfl,λk o=>?_⟩;have g:i+k<d.length:=by rw[c];simp;omega
  have:=n (i+k) g
  have e:d[i+k]=l[k]:=by
   subst c;subst q;rw[List.getElem_append_right (by omega)];simp only[Nat.add_sub_cancel_left];rw[List.getElem_append_left o]
  rw[e]at this;have j:b+(i+k)*1=b+i+k*1:=by omega
  rw[j]at this;exact this
theorem gO {w:World}{c a:Nat}{d:List ByteArray}(f:Xs 1 dS w (some ⟨c,a,none⟩) d)(i:Nat)(x:ByteArray)(hx:d[i]?=some x):w.cell? ⟨c,a+i,none⟩=some (.string x):=by
 obtain⟨b,rfl⟩:=lgs.1 hx;rcases f with h|⟨bb,oo,e,g⟩;·rw[h]at b;simp at b
 ·cases e;have:=g i b 0 _ rfl;simpa using this
theorem AB (b:Bk)(x:Wx):0<=dL b x/\dL b x<=2000000:=by
 unfold dL iX;split;·decide
 ·split;·decide
  ·split;·decide
   ·split<;>decide
theorem JL {b:Bk}{x:Wx}{c:Co}{r:List Co}(h:sA b x=c::r):0<=c.d/\c.d<=2000000/\0<=c.i/\c.i<=2000000/\0<=c.k/\c.k<=2000000:=by
 have e:=(ST h).1;unfold sA at h;split at h
 ·have a:c∈gK b x (x.l.toNat+1):=by rw[h];simp
  simp only[gK,lZ,lE,List.mem_flatMap,List.mem_map,List.mem_filter,List.mem_range]at a;obtain⟨d,hd,i,hi,k,⟨hk,_⟩,rfl⟩:=a;simp only[eJ,rU,nM,oE,iN,ES,bat,dte]at e;obtain⟨_,_,_,h1,f,g⟩:=e;have:=f.1;have:=g.1;exact⟨by simp,by simp only;omega,by simp,by simp only;omega,by simp,by simp only;omega⟩
 ·cases h
theorem OI (b:Bk)(x:Wx):∃d i k,gX b (decide (0<=j8 b.hl x.n)) x=fW d i k/\(dL b x=0->yU (sA b x)=⟨#[108,97,116,101,32]⟩++dD d++⟨#[32,119,97,121,32]⟩++dD i++⟨#[32,108,101,118,101,108,32]⟩++dD k/\0<=d/\d<=2000000/\0<=i/\i<=2000000/\0<=k/\k<=2000000):=by
 unfold gX dL;split
 ·rename_i a;cases hl:sA b x with
  |nil=>
   exfalso;unfold iX at a;rw[hl]at a;split at a;·cases a
   ·split at a;·cases a
    ·split at a<;>cases a
  |cons c r=>
   exact⟨c.d,c.i,c.k,rfl,λ_=>⟨rfl,JL hl⟩⟩
 ·rename_i a;exact⟨0,0,0,rfl,λh=>absurd h a⟩
theorem BP {nm q d f a l:ByteArray}{c:List ByteArray}{b:List (List Cx)}{j g:Option Addr}{e:List Yx}{wc i:Nat}(h:e.map Yx.l=b):qK (uQ nm q d f a l c b) ⟨nm,aV q,aV d,aV f,aV a,aV l,j,e,wc,g,aS c,i⟩:=by
 subst h;exact⟨rfl,rfl,rfl,rfl,rfl,rfl,rfl,⟨by simp[uQ],λk hk=>by simp[uQ]⟩⟩
theorem gT {w:World}{k:Nat}{o:Obj}(h:w.heap[k]?=some o):k<w.heap.size:=(bU h)
theorem oC (b:Bk)(nm:ByteArray):0<=cJ b nm/\cJ b nm<=2000000:=by
 unfold cJ;split;·decide
 ·split;·split<;>decide
  ·decide
theorem BT (b:Bk)(nm:ByteArray)(a:List Bx):0<=dX b nm a/\dX b nm a<=2000000:=by
 unfold dX jH;split;·decide
 ·split
  ·split
   ·split;·split<;>decide
    ·decide
   ·decide
  ·decide
theorem AF (b:Bk)(n:Int):0<=cV b n/\cV b n<=2000000:=by
 unfold cV;split<;>decide
theorem zC {s:St}{a:List ByteArray}(h:¬a.length=1):pF s a=(s,cX):=by
 unfold pF;split;·simp at h
 ·rfl
theorem wJ {took:Bool}{s:St}{a:List ByteArray}(h:¬a.length=1):nA took s a=(s,cX):=by
 unfold nA;split;·simp at h
 ·rfl
theorem DF {s:St}{a:List ByteArray}(h:¬(a.length=1/\jG a=true)):lT s a=(s,cX):=by
 unfold lT;split
 ·rename_i x;split
  ·rename_i hx;exact absurd ⟨rfl,by simp[jG,hx]⟩ h
  ·rfl
 ·rfl
theorem nU.ne {D:Nat}{w:World}{s:St}{b:Bk}{ta:Option Addr}{d c o:Nat}{x:ByteArray}(h:nU D w s b ta d)(a:w.cell? ⟨c,o,none⟩=some (.string x)):c≠D:=λe=>by
 subst e;simp only[World.cell?,h.o]at a;match o,a with
 |0,a=>simp at a
 |1,a=>simp at a
 |2,a=>simp at a
 |3,a=>simp at a
 |n+4,a=>simp at a
theorem nU.hand {D:Nat}{w:World}{s:St}{b:Bk}{ta:Option Addr}{e:Nat}(h:nU D w s b ta e){t':List Bx}{ta':Option Addr}{tc':Nat}(d:∀w',aT (λk=>k=D) w w'->jJ w' ta' t'):nU D (w.setCell ⟨D,3,none⟩ (.slice ta' t'.length tc')) ⟨s.b,t'⟩ b ta' tc':=by
 have a:aT (λk=>k=D) w (w.setCell ⟨D,3,none⟩ (.slice ta' t'.length tc')):=(aT.refl (λk=>k=D) w).set (g:=D) rfl _ _;exact⟨aO h.o 3 _,h.b.but a,λf c=>d f (a.trans c)⟩
abbrev CY:ByteArray:=⟨#[116,111,111,32,108,111,110,103,10]⟩
def eZ (text:ByteArray):List ByteArray:=if((bH 10 text).getLastD ⟨#[]⟩).toList=[]then(bH 10 text).dropLast else bH 10 text
noncomputable def FN (p:St×ByteArray)(ln:ByteArray):St×ByteArray:=((aX p.1 (bH 32 ln)).1,p.2++(aX p.1 (bH 32 ln)).2++XS)
def ZA:St:=⟨⟨0,none,[],0,none,[],0⟩,[]⟩
noncomputable def nP (l:List ByteArray):St×ByteArray:=l.foldl FN (ZA,⟨#[]⟩)
noncomputable def B6 (text:ByteArray):ByteArray:=if 20000<text.size then CY else if 300<(eZ text).length then CY else(nP (eZ text)).2
theorem rA (c:Int)(s:ByteArray):∀(m f i:Nat),s.size-i=m->fE c s f i≠[]/\∀x∈fE c s f i,x.size<=s.size
 |m,f,i,h=>by
  have g:∀a b,(s.extract a b).size<=s.size:=λa b=>by rw[ByteArray.size_extract];omega
  by_cases d:i<s.size
  ·by_cases e:(s[i].toNat:Int)=c
   ·rw[lF d e];have:=rA c s (s.size-(i+1)) (i+1) (i+1) rfl;refine⟨by simp,λx hx=>?_⟩;rcases List.mem_cons.1 hx with rfl|hx;·exact g _ _
    ·exact this.2 x hx
   ·rw[jY d e];exact rA c s (s.size-(i+1)) f (i+1) rfl
  ·rw[lA d];refine⟨by simp,λx hx=>?_⟩;rw[List.mem_singleton.1 hx];exact g _ _
termination_by m => m
theorem yP (c:Int)(s:ByteArray):bH c s≠[]:=(rA c s _ 0 0 rfl).1
theorem nS {c:Int}{s x:ByteArray}(h:x∈bH c s):x.size<=s.size:=(rA c s _ 0 0 rfl).2 x h
theorem JM {b:Bk}{x:Wx}:(yU (sA b x)).size<=2000000000:=by
 cases h:sA b x with
 |nil=>show(ByteArray.mk #[]).size<=_;decide
 |cons c r=>
  obtain⟨_,f,_,g,_,i⟩:=JL h;have:=bG f;have:=bG g;have:=bG i;have a:(⟨#[108,97,116,101,32]⟩:ByteArray).size=5:=rfl;have d:(⟨#[32,119,97,121,32]⟩:ByteArray).size=5:=rfl;have e:(⟨#[32,108,101,118,101,108,32]⟩:ByteArray).size=7:=rfl;simp only[yU,ByteArray.size_append,a,d,e];omega
theorem nX {c:Int}(h:c<=2000000):(iK c).size<=2000000000:=by have:=K1 h;omega
theorem eX:cX.size<=2000000000:=by decide
theorem DP {b:Bk}(c:aN b=true):(qD b).size<=2000000000:=by
 have a:=uJ c
 have d:=zR b.hl (λx hx=>by
  obtain⟨_,d,e,f,g,h⟩:=a x hx;exact⟨lN d (oD g),lN e (oD h),f⟩) (dD b.now)
 have e:=lS c
 have f:b.now<=10000:=by
  have:=(eN.1 c).1;rw[nT,dte]at this;exact this.2
 have g:=bG (n:=b.now) (by omega);unfold qD;omega
theorem MB (b:Bk)(nm:ByteArray)(t:List Bx)(a:Int):(mS b nm t a).size<=2000000000:=by
 have i:((nR b nm t a).foldl mJ ⟨#[]⟩).size<=301*4000004:=by
  rcases SS b nm t a with h|h
  ·have:=wK _ (λp f=>⟨(yG h p f).2.1,(yG h p f).2.2.2⟩) ⟨#[]⟩;have e:(ByteArray.mk #[]).size=0:=rfl;have:=h.len;omega
  ·rw[h];show(ByteArray.mk #[]).size<=_;decide
 unfold mS;obtain⟨o,j⟩:=bP ((nR b nm t a).foldl mJ ⟨#[]⟩);rw[←j]at i ⊢;have c:(⟨#[110,101,118,101,114]⟩:ByteArray).size=5:=rfl;have g:(⟨#[102,114,101,101,32]⟩:ByteArray).size=5:=rfl;rcases TH b nm t a with h|h
 ·cases he:pN b nm t a with
  |none=>simp only[OL,ByteArray.size_append,c];omega
  |some d=>
   rw[he]at h;have:=bG (EV h).2;simp only[OL,ByteArray.size_append,g];omega
 ·rw[h];simp only[OL,ByteArray.size_append,c];omega
theorem wB {k:Nat}{s:St}(h:iP k s)(d:List ByteArray):(aX s d).2.size<=2000000000:=by
 have a:SE.size<=2000000000:=by decide
 have c:WT.size<=2000000000:=by decide
 unfold aX;split;·exact eX
 ·split
  ·unfold fT;split
   ·split
    ·split;·exact a
     ·exact c
    ·exact eX
   ·exact eX
  ·split
   ·unfold jW;split
    ·split
     ·split
      ·unfold nK;show(if _ then _ else _:ByteArray).size<=_;split;·exact JM
       ·exact nX (AB _ _).2
      ·exact eX
     ·exact eX
    ·exact eX
   ·split
    ·unfold uE;split
     ·split;·exact a
      ·exact eX
     ·exact eX
    ·split
     ·unfold pF;split;·exact nX (BT _ _ _).2
      ·exact eX
     ·split
      ·unfold nA;split;·exact nX (oC _ _).2
       ·exact eX
      ·split
       ·unfold nA;split;·exact nX (oC _ _).2
        ·exact eX
       ·split
        ·unfold lT;split
         ·split;·exact nX (AF _ _).2
          ·exact eX
         ·exact eX
        ·split
         ·unfold tX;split;·exact DP h.b
          ·exact eX
         ·split
          ·unfold mY;split
           ·split;·exact MB _ _ _ _
            ·exact eX
           ·exact eX
          ·exact eX
theorem wP (l:List ByteArray)(k:Nat)(h:k<l.length):nP (l.take (k+1))=FN (nP (l.take k)) l[k]:=by
 rw[nP,nP,List.take_succ_eq_append_getElem h,List.foldl_append];rfl
theorem XI:iP 0 ZA:=⟨by decide,nlq _⟩
theorem F7 (l:List ByteArray):∀k,k<=l.length->iP k (nP (l.take k)).1/\(nP (l.take k)).2.size<=k*2000000001
 |0,_=>⟨XI,by show(ByteArray.mk #[]).size<=_;decide⟩
 |k+1,h=>by
  obtain⟨a,h2⟩:=F7 l k (by omega);rw[wP l k (by omega)];refine⟨V7 a _,?_⟩;have h3:=wB a (bH 32 l[k]);have e:XS.size=1:=rfl;show((nP (l.take k)).2++(aX (nP (l.take k)).1 (bH 32 l[k])).2++XS).size<=_;simp only[ByteArray.size_append,e];omega
def KQ (D:Nat)(tv vn:Value)(g oo:Nat)(y:Bx)(t:List Bx)(Z:Nat)(j:Nat)(vs:Nat->Value)(w:World):Prop:=
 match j with
 |0=>vs 0=.pointer (some ⟨D,0,none⟩)
 |1=>vs 1=.pointer (some ⟨D,0,none⟩)
 |2=>vs 2=.pointer (some ⟨D,0,none⟩)
 |3=>vs 3=.pointer (some ⟨D,3,none⟩)
 |4=>vs 4=tv
 |6=>vs 6=vn
 |7=>vs 7=.pointer (some ⟨g,oo,none⟩)
 |8=>vs 8=.int .i64 y.x
 |9=>vs 9=vn
 |10=>vs 10=.pointer (some ⟨g,oo+1,none⟩)
 |11=>vs 11=.int .i64 y.y
 |12=>vs 12=vn
 |13=>vs 13=.pointer (some ⟨g,oo+2,none⟩)
 |14=>vs 14=.int .i64 y.lo
 |15=>vs 15=vn
 |16=>vs 16=.pointer (some ⟨g,oo+3,none⟩)
 |17=>vs 17=.int .i64 y.hi
 |18=>vs 18=vn
 |19=>vs 19=.pointer (some ⟨g,oo+4,none⟩)
 |20=>vs 20=.int .i64 y.i
 |21=>vs 21=vn
 |22=>vs 22=.pointer (some ⟨g,oo+5,none⟩)
 |23=>vs 23=.int .i64 y.o
 |24=>vs 24=.agg #[.int .i64 y.x,.int .i64 y.y,.int .i64 y.lo,.int .i64 y.hi,.int .i64 y.i,.int .i64 y.o]
 |5=>w.ownsRow Z 56 6 (vs 5) t.length (fA t)
 |25=>∃p,vs 25=.slice (some ⟨p,0,none⟩) 1 1/\w.heap[p]?=some (.cells #[.int .i64 y.x,.int .i64 y.y,.int .i64 y.lo,.int .i64 y.hi,.int .i64 y.i,.int .i64 y.o] 56)
 |_=>True
theorem KQ.zL {D:Nat}{c d:Value}{g b:Nat}{y:Bx}{t:List Bx}{Z:Nat}(j:Nat)(e:Nat->Value)(w w':World)(h:KQ D c d g b y t Z j e w)(a:aF w w'):KQ D c d g b y t Z j e w':=by
 unfold KQ at*;split at h
 all_goals first
  |exact h
  |exact eO h a
  |(obtain⟨p,f,i⟩:=h;exact⟨p,f,bJ i a⟩)
def XK (j:Nat):List Nat:=[j]
def TW (j:Nat):Bool:=j==0
theorem KQ.loc {D:Nat}{d f:Value}{g c:Nat}{y:Bx}{t:List Bx}{Z:Nat}(j:Nat)(b a:Nat->Value)(w:World)(i:∀q∈XK j,b q=a q)(h:KQ D d f g c y t Z j b w):KQ D d f g c y t Z j a w:=by
 have e:b j=a j:=i j (by simp[XK]);unfold KQ at*;split at h
 all_goals first
  |(rw[←e];exact h)
  |trivial
def YH (D:Nat)(_:Nat)(v:Value):Prop:=v=.pointer (some ⟨D,0,none⟩)
theorem KQ.free {D:Nat}{d e:Value}{g c:Nat}{y:Bx}{t:List Bx}{Z:Nat}(j:Nat)(b:Nat->Value)(w:World)(a:TW j=true)(h:KQ D d e g c y t Z j b w):YH D j (b j):=by
 simp[TW]at a;subst a;exact h
structure Z7 (W:World)(D:Nat)(y:Bx)(t:List Bx)(k:Nat)(vs:Nat->Value)(w':World):Prop where
 a:k=26->aF W w'/\w'.ownsRow W.heap.size 56 6 (vs 5) t.length (fA t)/\∃p,vs 25=.slice (some ⟨p,0,none⟩) 1 1/\w'.heap[p]?=some (.cells #[.int .i64 y.x,.int .i64 y.y,.int .i64 y.lo,.int .i64 y.hi,.int .i64 y.i,.int .i64 y.o] 56)
 b:27<=k->aF W w'/\w'.ownsRow W.heap.size 56 6 (vs 26) (t.length+1) (fA t++aR y)
 c:28<=k->vs 27=.pointer (some ⟨D,0,none⟩)
 d:29<=k->vs 28=.pointer (some ⟨D,3,none⟩)
theorem RY {w:World}{base base' e sz:Nat}{v:Value}{m:Nat}{xs:List Value}(h:w.ownsRow base e sz v m xs)(hb:base'<=base):w.ownsRow base' e sz v m xs:=by
 obtain⟨c,h|⟨g,a,b,d,h2,f⟩⟩:=h;·exact⟨c,.inl h⟩
 ·exact⟨c,.inr ⟨g,a,b,d,by omega,f⟩⟩
theorem AJ {s:St}{a:List ByteArray}(h:¬(a.length=6/\jG a=true)):uE s a=(s,cX):=by
 unfold uE;split
 ·split
  ·rename_i hx;exact absurd ⟨rfl,hx⟩ h
  ·rfl
 ·rfl
theorem ZW {a:List ByteArray}(h:a.length=6):∃b c d e f g,a=[b,c,d,e,f,g]:=by
 match a,h with
 |[b,c,d,e,f,g],_=>exact⟨b,c,d,e,f,g,rfl⟩
theorem QC {S:Nat->Prop}{w:World}{z n:Nat}{a:Option Addr}{c:Nat}{l:List Bx}(g:n=l.length)(h:w.ownsRow z 56 6 (.slice a n c) n (fA l))(d:∀k,S k->k<z):∀w',aT S w w'->jJ w' a l:=λw' e=>by
 subst g;have b:w'.ownsRow z 56 6 (.slice a l.length c) l.length (fA l):=i6 h (λk cs hz f=>e.block k (gT f) (λi=>by have:=d k i;omega));exact(aP.of_owns b).xs
theorem VR (D:Nat) (w:World) (s:St) (b:Bk) (ta:Option Addr) (tc kk:Nat) (M:nU D w s b ta tc) (zq:iP kk s) (hkk:kk<=1000) (n:ByteArray) (a:List ByteArray) (bl J C:Nat) (hX:Xs 1 dS w (some ⟨bl,J,none⟩) (n::a)) (hcap:a.length+1<=C) (hlen:a.length+1<=1048570) (_hsz:∀x∈n::a,x.size<=1048575) (hn:n.toList=FI):
 aY 7 #[.pointer (some ⟨D,0,none⟩),.slice (some ⟨bl,J,none⟩) (a.length+1) C] w λe w'=>OP D w (aX s (n::a)) e w':=by
 obtain⟨ib,zp,zl,G,zm⟩:=info_parts Tryz.info56;have c0:=gO hX 0 n rfl;rw[Nat.add_zero]at c0;have zd:Xs 1 dS w (some ⟨bl,J+1,none⟩) a:=i7 hX 1 [n] _ [] (by simp) rfl;go_enter Tryz.func7,Tryz.ntmps7;go_upto_region 1 with fail;go_cut [5,6] (λv5 v6 wx=>v6=.bool (jG a)/\Hid (jG a=true->∃a' c',v5=.slice a' (aS a).length c'/\Xs 1 eW wx a' (aS a))/\aF w wx)
 case first=>
  by_cases zo:C=1
  ·have ha:a=[]:=List.eq_nil_of_length_eq_zero (by omega);subst ha;subst zo;go_wp2_with fail;refine(bW [] (some ⟨bl,J,none⟩) 0 w (.inl rfl) (by simp)).mono ?_;rintro e w1 ⟨⟨v1,rfl,I⟩,G⟩;have T:=aG I;clear I;go_wp2;go_meet;exact⟨rfl,T,G⟩
  ·have hc2:1<C:=by omega
   go_wp2_with fail;refine(bW a (some ⟨bl,J+1,none⟩) (C-1) w zd (by omega)).mono ?_;rintro e w1 ⟨⟨v1,rfl,I⟩,G⟩;have T:=aG I;clear I;go_wp2;go_meet;exact⟨rfl,T,G⟩
 case rest=>
  obtain⟨rfl,HV,hN⟩:=hcut;replace hX:=hX.zL hN;replace c0:=(hN.cell (aA c0)).trans c0;replace M:=M.zL hN;have HN:=aG hN;clear zd hN;have ht1:s.t.length<=1000:=by have:=zq.t;omega
  by_cases N:a.length=6/\jG a=true
  ·obtain⟨N,f⟩:=N;obtain⟨Z,x1,x2,x3,x4,x5,rfl⟩:=ZW N;obtain⟨a6,c6,rfl,zr⟩:=HV.oQ f;rcases zr with h|⟨g,B,rfl,A⟩;·simp[aS]at h
   have za:Hid (aX s [n,Z,x1,x2,x3,x4,x5]=(⟨s.b,s.t++[⟨aV Z,aV x1,aV x2,aV x3,aV x4,aV x5⟩]⟩,SE)):=by
    rw[Hid,aX,hn];show uE s [Z,x1,x2,x3,x4,x5]=_;rw[uE,if_pos f]
   have j0:wc.cell? ⟨g,B,none⟩=some (.int .i64 (aV Z)):=by have:=A 0 (by simp[aS]) 0 _ rfl;simpa[aS]using this
   have j1:wc.cell? ⟨g,B+1,none⟩=some (.int .i64 (aV x1)):=by have:=A 1 (by simp[aS]) 0 _ rfl;simpa[aS]using this
   have j2:wc.cell? ⟨g,B+2,none⟩=some (.int .i64 (aV x2)):=by have:=A 2 (by simp[aS]) 0 _ rfl;simpa[aS]using this
   have j3:wc.cell? ⟨g,B+3,none⟩=some (.int .i64 (aV x3)):=by have:=A 3 (by simp[aS]) 0 _ rfl;simpa[aS]using this
   have j4:wc.cell? ⟨g,B+4,none⟩=some (.int .i64 (aV x4)):=by have:=A 4 (by simp[aS]) 0 _ rfl;simpa[aS]using this
   have j5:wc.cell? ⟨g,B+5,none⟩=some (.int .i64 (aV x5)):=by have:=A 5 (by simp[aS]) 0 _ rfl;simpa[aS]using this
   have e5:(aS [Z,x1,x2,x3,x4,x5]).length=6:=rfl;rw[e5,f];obtain⟨y,P⟩:=bP (⟨aV Z,aV x1,aV x2,aV x3,aV x4,aV x5⟩:Bx);have R:Hid (aX s [n,Z,x1,x2,x3,x4,x5]=(⟨s.b,s.t++[y]⟩,SE)):=by rw[P];exact za.oQ
   replace j0:wc.cell? ⟨g,B,none⟩=some (.int .i64 y.x):=by rw[P];exact j0
   replace j1:wc.cell? ⟨g,B+1,none⟩=some (.int .i64 y.y):=by rw[P];exact j1
   replace j2:wc.cell? ⟨g,B+2,none⟩=some (.int .i64 y.lo):=by rw[P];exact j2
   replace j3:wc.cell? ⟨g,B+3,none⟩=some (.int .i64 y.hi):=by rw[P];exact j3
   replace j4:wc.cell? ⟨g,B+4,none⟩=some (.int .i64 y.i):=by rw[P];exact j4
   replace j5:wc.cell? ⟨g,B+5,none⟩=some (.int .i64 y.o):=by rw[P];exact j5
   clear P za e5 A f N HV hX;go_upto_region 7 with fail;refine SZ 6 26 29 [some 53,some 54,some 55,some 56,some 57,some 58,some 59,some 60,some 61,some 62,some 63,some 64,some 65,some 66,some 67,some 68,some 69,some 70,some 71,some 72,some 73,some 74,some 75,some 76,some 77,some 78,some 79,some 80,some 81] TW XK (KQ D (.slice ta s.t.length tc) (.slice (some ⟨g,B,none⟩) 6 c6) g B y s.t wc.heap.size) (YH D) (Z7 wc D y s.t) KQ.zL KQ.loc KQ.free ?step ?free ?g0 ?gf ?store ?fin
   case step=>
    intro ii o F w' zf f m z;obtain⟨z0z,z1z,z2z,z3z⟩:=(M.zL m).c;have y0y:=(m.cell (aA j0)).trans j0;have y1y:=(m.cell (aA j1)).trans j1;have y2y:=(m.cell (aA j2)).trans j2;have y3y:=(m.cell (aA j3)).trans j3;have y4y:=(m.cell (aA j4)).trans j4;have y5y:=(m.cell (aA j5)).trans j5;match ii,zf with
    |2,_|3,_|4,_|7,_|8,_|10,_|11,_|13,_|14,_|16,_|17,_|19,_|20,_|22,_|23,_|24,_=>
     simp at f;subst f;simp[Region.binds,KQ]at z;simp only[aE,Act.put,z];gi_wp2;exact⟨_,by simp[aH,z],rfl,br _ _⟩
    |0,_|1,_|6,_|9,_|12,_|15,_|18,_|21,_=>
     simp at f;subst f;simp only[aE,Act.put];gi_wp2;exact⟨_,by simp[aH],rfl,br _ _⟩
    |5,_=>
     simp at f;subst f;simp[Region.binds,KQ]at z;simp only[aE,Act.put,z];gi_wp2_with fail;refine⟨trivial,rfl,?_⟩;refine(cw.2 (AL s.t ta tc w' (M.zL m).tb (by omega))).mono ?_;rintro e w5 ⟨⟨v5,rfl,E⟩,zn⟩;have HO:=aG (RY E m.size);clear E;gi_wp2;exact⟨_,by simp[aH,z],HO.oQ,zn⟩
    |25,_=>
     simp at f;subst f;simp[Region.binds,KQ]at z;simp only[aE,Act.put,z];gi_wp2;exact⟨_,by simp[aH,z],⟨_,rfl,wnq w' _⟩,aB (br _ _) _⟩
    |q+26,h=>exact absurd h (by omega)
   case free=>
    intro i o F w' t zf W f ht htM r z;have X:i=0:=by simpa[TW]using W
    subst X;clear r z;simp at f;subst f;simp only[aE,Act.put];gi_wp2;exact⟨.pointer (some ⟨D,0,none⟩),by simp[aH],rfl,trivial⟩
   case g0=>
    intro F w' m Y;exact⟨λ_=>⟨m,Y 5 (by decide) rfl,Y 25 (by decide) rfl⟩,λh=>absurd h (by decide),λh=>absurd h (by decide),λh=>absurd h (by decide)⟩
   case gf=>
    intro t F w' i v W r;have X:i=0:=by simpa[TW]using W
    subst X;exact⟨r.a,r.b,r.c,r.d⟩
   case store=>
    intro t o F w' h12 h15 f r z;have ht:t=26∨t=27∨t=28:=by omega
    rcases ht with rfl|rfl|rfl
    ·simp at f;subst f;obtain⟨m,E,p,zb,Y⟩:=r.a rfl;obtain⟨u5,e5⟩:∃u,F 5=u:=⟨_,rfl⟩;rw[e5]at E
     have H:∀j u,(aR y)[j]?=some u->w'.cell? ((⟨p,0,none⟩:Addr).add j)=some u:=λj u h=>by
      rw[Addr.add_lit,Nat.zero_add];match j,h with
      |0,h|1,h|2,h|3,h|4,h|5,h=>simp[aR]at h;subst h;exact aJ Y rfl
     clear r z;simp only[aE,Act.put,List.setIfInBounds_toArray,List.set_cons_succ,List.set_cons_zero];rw[e5,zb];refine wpListIn_append_own w' rfl (.tmp 58) (.tmp 78) 31 rfl wc.heap.size 56 ib _ 6 48 Tryz.underlying31 zp zl G zm rfl (by decide) u5 s.t.length (fA s.t) rfl E ⟨p,0,none⟩ 1 1 (aR y) rfl rfl H (mL y) (by unfold maxLen;omega) (by omega) m.size (λv1 w1 O ze _=>?_);have zi:Hid (aF wc w1):=m.grown ze m.size (λq hq=>fB E hq);have zj:=aG O;clear O ze H E Y m;gi_wp2;exact⟨v1,by simp[aH,e5,zb,Act.put],λh=>absurd h (by decide),λ_=>⟨zi.oQ,zj.oQ⟩,λh=>absurd h (by decide),λh=>absurd h (by decide)⟩
    ·simp at f;subst f;have d0:F 0=.pointer (some ⟨D,0,none⟩):=z (eD 0) (by simp) rfl (by decide) rfl;have Q:Hid (aF wc w'/\w'.ownsRow wc.heap.size 56 6 (F 26) (s.t.length+1) (fA s.t++aR y)):=r.b (by decide);clear r z;simp only[aE,Act.put,d0];gi_wp2;exact⟨_,by simp[aH,d0],λh=>absurd h (by decide),λ_=>Q.oQ,λ_=>rfl,λh=>absurd h (by decide)⟩
    ·simp at f;subst f;have U:=r.c (by decide);have Q:Hid (aF wc w'/\w'.ownsRow wc.heap.size 56 6 (F 26) (s.t.length+1) (fA s.t++aR y)):=r.b (by decide);clear r z;simp only[aE,Act.put,U];gi_wp2;exact⟨_,by simp[aH,U],λh=>absurd h (by decide),λ_=>Q.oQ,λ_=>U,λ_=>rfl⟩
   case fin=>
    intro F w' r Y;have zc:=r.d (by decide);obtain⟨m,E⟩:=r.b (by decide)
    obtain⟨ta',tc',V⟩:∃a c,F 26=.slice a (s.t.length+1) c:=by
     obtain⟨_,⟨_,e⟩|⟨g,C,_,e,_⟩⟩:=E;·omega
     ·exact⟨_,_,e⟩
    rw[V,←jE]at E;have K:=M.zL m;have zg:=QC (S:=λk=>k=D) (l:=s.t++[y]) (by simp) E (λk e=>by rw[e];exact gT M.o)
    have zk:Hid (nU D (w'.setCell ⟨D,3,none⟩ (.slice ta' (s.t.length+1) tc')) ⟨s.b,s.t++[y]⟩ b ta' tc'):=by
     have:=K.hand (t':=s.t++[y]) (ta':=ta') (tc':=tc') zg;rw[List.length_append]at this;exact this
    have zh:Hid (aT (λk=>k=D) w (w'.setCell ⟨D,3,none⟩ (.slice ta' (s.t.length+1) tc'))):=aT.set (S:=λk=>k=D) ((aT.below HN.oQ).trans (aT.below m)) (g:=D) rfl _ _;obtain⟨y0,y1,y2,y3⟩:=K.c;have yf:=K.fz;clear Y r m E K zg;simp only[lds,List.drop_zero,aE,Act.put];rw[zc,V];clear zc V;generalize F=F;gi_wp2_with fail;go_wp2;go_ret;exact⟨⟨_,_,_,by rw[R.oQ];exact zk.oQ⟩,by rw[R.oQ];rfl,zh.oQ⟩
  ·have R:Hid (aX s (n::a)=(s,cX)):=by rw[Hid,←AJ (s:=s) N,aX,hn];rfl
   by_cases L:a.length=6
   ·have f:jG a=false:=by
     cases e:jG a with
     |false=>rfl
     |true=>exact absurd ⟨L,e⟩ N
    rw[f,L];clear N L HV;go_wp2;go_ret;exact⟨⟨_,_,_,by rw[R.oQ];exact M⟩,by rw[R.oQ];rfl,aT.below HN.oQ⟩
   ·have hl':((a.length:Int)+1==7)=false:=by rw[beq_eq_false_iff_ne];omega
    clear N L;go_wp2;go_ret;exact⟨⟨_,_,_,by rw[R.oQ];exact M⟩,by rw[R.oQ];rfl,aT.below HN.oQ⟩
set_option maxHeartbeats 16000000
def KW (D:Nat)(b:Bk)(x:Wx)(vw vn:Value)(bl off g o:Nat)(s':Bk)(d i k c:Int)(Z:Nat)(j:Nat)(vs:Nat->Value)(w:World):Prop:=
 match j with
 |0=>vs 0=.pointer (some ⟨D,0,none⟩)
 |1=>vs 1=.pointer (some ⟨D,0,none⟩)
 |2=>vs 2=.pointer (some ⟨D,0,none⟩)
 |3=>vs 3=b.val
 |4=>vs 4=vw
 |5=>vs 5=.pointer (some ⟨bl,off+1,none⟩)
 |6=>vs 6=.string x.n
 |7=>vs 7=vn
 |8=>vs 8=.pointer (some ⟨g,o,none⟩)
 |9=>vs 9=.int .i64 x.q
 |10=>vs 10=vn
 |11=>vs 11=.pointer (some ⟨g,o+1,none⟩)
 |12=>vs 12=.int .i64 x.s
 |13=>vs 13=vn
 |14=>vs 14=.pointer (some ⟨g,o+2,none⟩)
 |15=>vs 15=.int .i64 x.f
 |16=>vs 16=vn
 |17=>vs 17=.pointer (some ⟨g,o+3,none⟩)
 |18=>vs 18=.int .i64 x.b
 |19=>vs 19=vn
 |20=>vs 20=.pointer (some ⟨g,o+4,none⟩)
 |21=>vs 21=.int .i64 x.l
 |22=>vs 22=.slice x.wa x.wl.length x.wc
 |23=>vs 23=.slice x.la x.ll.length x.lc
 |24=>vs 24=x.val
 |25=>∃b':Bk,vs 25=.tuple #[b'.val,fW d i k,.int .i64 c]/\KE s'.now s'.fl s'.hl b'/\eF Z w b'
 |26=>∃b':Bk,vs 26=.tuple #[b'.val,fW d i k,.int .i64 c]/\KE s'.now s'.fl s'.hl b'/\eF Z w b'
 |27=>∃b':Bk,vs 26=.tuple #[b'.val,fW d i k,.int .i64 c]/\vs 27=b'.val/\KE s'.now s'.fl s'.hl b'/\eF Z w b'
 |28=>vs 28=fW d i k
 |29=>vs 29=.int .i64 c
 |30=>∃p,vs 30=.pointer (some ⟨p,0,none⟩)/\Z<=p/\w.heap[p]?=some (.cells #[.int .i64 0,.slice none 0 0,.slice none 0 0] 30)
 |31=>∃p,vs 31=.pointer (some ⟨p,0,none⟩)/\Z<=p/\w.heap[p]?=some (.cells #[.int .i64 0,.int .i64 0,.int .i64 0] 80)
 |_=>True
theorem KW.zL {D:Nat}{b:Bk}{x:Wx}{t r:Value}{n l g o:Nat}{q:Bk}{d i k c:Int}{Z:Nat}(j:Nat)(s:Nat->Value)(w w':World)(h:KW D b x t r n l g o q d i k c Z j s w)(m:aF w w'):KW D b x t r n l g o q d i k c Z j s w':=by
 unfold KW at*;split at h
 all_goals first
  |exact h
  |(obtain⟨b',a,e,f⟩:=h;exact⟨b',a,e,f.zL m⟩)
  |(obtain⟨b',a,e,f,u⟩:=h;exact⟨b',a,e,f,u.zL m⟩)
  |(obtain⟨p,a,e,f⟩:=h;exact⟨p,a,e,bJ f m⟩)
def V8 (j:Nat):List Nat:=if j=27 then[27,26]else[j]
def SF (j:Nat):Bool:=j==28||j==29
theorem KW.loc {D:Nat}{b:Bk}{x:Wx}{s r:Value}{m f g o:Nat}{p:Bk}{d i k c:Int}{Z:Nat}(j:Nat)(l a:Nat->Value)(w:World)(n:∀q∈V8 j,l q=a q)(h:KW D b x s r m f g o p d i k c Z j l w):KW D b x s r m f g o p d i k c Z j a w:=by
 have e:l j=a j:=n j (by unfold V8;split<;>simp_all);unfold KW at*;split at h
 all_goals first
  |(rw[←e];exact h)
  |(rw[←e,←n 26 (by simp[V8])];exact h)
  |trivial
def YT (d i k c:Int)(j:Nat)(v:Value):Prop:=if j=28 then v=fW d i k else v=.int .i64 c
theorem KW.free {D:Nat}{b:Bk}{x:Wx}{p n:Value}{l a g o:Nat}{m:Bk}{d i k c:Int}{Z:Nat}(j:Nat)(f:Nat->Value)(w:World)(e:SF j=true)(h:KW D b x p n l a g o m d i k c Z j f w):YT d i k c j (f j):=by
 simp[SF]at e;rcases e with rfl|rfl<;>exact h
structure Z5 (W:World)(s':Bk)(d i k c:Int)(t:Nat)(vs:Nat->Value)(w':World)(b':Bk)(p q:Nat):Prop where
 tt:vs 26=.tuple #[b'.val,fW d i k,.int .i64 c]
 v:vs 27=b'.val
 vp:vs 30=.pointer (some ⟨p,0,none⟩)
 vq:vs 31=.pointer (some ⟨q,0,none⟩)
 bel:aF W w'
 cnt:KE s'.now s'.fl s'.hl b'
 sp:eF W.heap.size w' b'
 zp:W.heap.size<=p
 zq:W.heap.size<=q
 p0:t=32->w'.heap[p]?=some (.cells #[.int .i64 0,.slice none 0 0,.slice none 0 0] 30)
 p1:32<t->w'.heap[p]?=some b'.obj
 q0:t<=33->w'.heap[q]?=some (.cells #[.int .i64 0,.int .i64 0,.int .i64 0] 80)
 q1:33<t->w'.heap[q]?=some (iR d i k)
def ZG (W:World)(s':Bk)(d i k c:Int)(t:Nat)(vs:Nat->Value)(w':World):Prop:=∃b' p q,Z5 W s' d i k c t vs w' b' p q
def CV (q:Nat)(d i k:Int)(s0 s1 s2 s3 s4 s5 s6 s7:ByteArray)(j:Nat)(v:Value)(_w:World):Prop:=
 match j with
 |0=>v=.pointer (some ⟨q,0,none⟩)
 |1=>v=.int .i64 d
 |2=>v=.string s0
 |3=>v=.string s1
 |4=>v=.string s2
 |5=>v=.pointer (some ⟨q,1,none⟩)
 |6=>v=.int .i64 i
 |7=>v=.string s3
 |8=>v=.string s4
 |9=>v=.string s5
 |10=>v=.pointer (some ⟨q,2,none⟩)
 |11=>v=.int .i64 k
 |12=>v=.string s6
 |13=>v=.string s7
 |_=>True
theorem PD (D:Nat)(w:World)(s:St)(b:Bk)(ta:Option Addr)(tc k:Nat)(hS:nU D w s b ta tc)(jd:iP k s)(ws:List ByteArray)(bl M zs:Nat)(hX:Xs 1 dS w (some ⟨bl,M,none⟩) ws)(h9:8<ws.length)(xw:ws.length<=zs)(xy:ws.length<=1048570)(yj:∀x∈ws,x.size<=1048575):
 aY 15 #[.pointer (some ⟨D,0,none⟩),.slice (some ⟨bl,M,none⟩) ws.length zs] w λe w'=>OP D w (jW s ws.tail) e w':=by
 obtain⟨n,nm,q,O,f,N,l,lv,y,ys,I⟩:=ws9 h9;have xt:Xs 1 dS w (some ⟨bl,M+2,none⟩) [q,O,f,N,l]:=i7 hX 2 [n,nm] _ (lv::y::ys) (by rw[I];rfl) rfl;have K:Xs 1 dS w (some ⟨bl,M+8,none⟩) (y::ys):=i7 hX 8 [n,nm,q,O,f,N,l,lv] _ [] (by rw[I];simp) rfl;have R:=gO hX 1 nm (by rw[I];rfl);have c7:=gO hX 7 lv (by rw[I];rfl);have ja:lv.size<=1048575:=yj lv (by rw[I];simp);have jc:nm.size<=1048575:=yj nm (by rw[I];simp);have xi:∀x∈y::ys,x.size<=1048575:=λx hx=>yj x (by rw[I];exact List.mem_append_right [n,nm,q,O,f,N,l,lv] hx)
 have z:Hid (jW s ws.tail=if jG [q,O,f,N,l]&&jG (bH 44 lv)then(match fI (y::ys)with|some cs=>nK s (uQ nm q O f N l (bH 44 lv) cs)|none=>(s,cX))else(s,cX)):=by rw[I];rfl
 obtain⟨YY,yz⟩:=bP (y::ys);have hm:ws.length=YY.length+8:=by rw[I,yz];simp
 rw[←yz]at K xi z;obtain⟨m,xz⟩:=bP ws.length;rw[←xz]at hm xw xy h9 ⊢;have HM:=aG hm;have jb:m-8=YY.length:=by omega
 clear I yz hX yj xz hm n y ys;have yi:(bH 44 lv).length<=1048576:=by have:=kP 44 lv;omega
 go_enter Tryz.func15,Tryz.ntmps15
 go_wp2_with fail
 refine(bW [q,O,f,N,l] (some ⟨bl,M+2,none⟩) (zs-2) w xt (by simp)).mono ?_;rintro e w1 ⟨⟨v1,rfl,qe⟩,zb⟩;have yv:=aG qe;have xk:=aG zb
 replace R:=(zb.cell (aA R)).trans R
 replace c7:=(zb.cell (aA c7)).trans c7
 replace K:=K.zL zb
 replace hS:=hS.zL zb
 clear qe zb xt;obtain⟨p1,L⟩:∃p,p=jG [q,O,f,N,l]:=⟨_,rfl⟩;rw[←L]at yv z ⊢;clear L;go_wp2_with fail
 refine(rI lv 44 w1 (by omega)).mono ?_;rintro e w2 ⟨⟨v2,rfl,qa⟩,zc⟩;obtain⟨a2,c2,rfl,xh⟩:=q9 qa;have xl:=aG (aC xk.oQ zc)
 replace R:=(zc.cell (aA R)).trans R
 replace K:=K.zL zc
 replace hS:=hS.zL zc
 have yl:Hid (p1=true->∃J T,v1=.slice J (aS [q,O,f,N,l]).length T/\Xs 1 eW w2 J (aS [q,O,f,N,l])):=λh=>by obtain⟨J,T,e,hx⟩:=yv.oQ h;exact⟨J,T,e,hx.zL zc⟩
 clear qa zc xk yv c7;obtain⟨Q,hQ⟩:=bP (bH 44 lv);rw[←hQ]at xh z yi ⊢;clear hQ;go_wp2_with fail
 refine(bW Q a2 c2 w2 xh yi).mono ?_;rintro e w3 ⟨⟨v3,rfl,zh⟩,zd⟩;have yw:=aG zh;have zu:=aG (aC xl.oQ zd)
 replace R:=(zd.cell (aA R)).trans R
 replace K:=K.zL zd
 replace hS:=hS.zL zd
 have ym:Hid (p1=true->∃J T,v1=.slice J (aS [q,O,f,N,l]).length T/\Xs 1 eW w3 J (aS [q,O,f,N,l])):=λh=>by obtain⟨J,T,e,hx⟩:=yl.oQ h;exact⟨J,T,e,hx.zL zd⟩
 clear zh zd xl yl xh;obtain⟨p2,qb⟩:∃p,p=jG Q:=⟨_,rfl⟩;rw[←qb]at yw z ⊢;clear qb;go_wp2_with fail
 refine(VX YY (some ⟨bl,M+8,none⟩) (zs-8) w3 K (by omega) xi).mono ?_;rintro e E ⟨⟨v4,rfl,zi⟩,ze⟩;have zv:=aG zi;have yr:=aG (aC zu.oQ ze)
 replace R:=(ze.cell (aA R)).trans R
 have za:nU D E s b ta tc:=hS.zL ze;have zn:Hid (p1=true->∃J T,v1=.slice J (aS [q,O,f,N,l]).length T/\Xs 1 eW E J (aS [q,O,f,N,l])):=λh=>by obtain⟨J,T,e,hx⟩:=ym.oQ h;exact⟨J,T,e,hx.zL ze⟩
 have zo:Hid (p2=true->∃J T,v3=.slice J (aS Q).length T/\Xs 1 eW E J (aS Q)):=λh=>by obtain⟨J,T,e,hx⟩:=yw.oQ h;exact⟨J,T,e,hx.zL ze⟩
 clear zi ze zu ym yw K hS;obtain⟨ow,xf⟩:=bP (fI YY);rw[←xf]at zv z ⊢;have yt:=aG xf;clear xf
 by_cases V:p1=true/\p2=true/\∃cs,ow=some cs
 · obtain⟨rfl,rfl,cs,rfl⟩:=V
   obtain⟨a5,c5,rfl,jf⟩:=zn.oQ rfl;obtain⟨aL,cL,zh,qg⟩:=zo.oQ rfl;obtain⟨wa,wl,wc,zi,yk,qf,xg⟩:=(zv.oQ cs rfl).e
   rcases jf with h|⟨g,oo,rfl,zg⟩
   · simp[aS]at h
   have j0:E.cell? ⟨g,oo,none⟩=some (.int .i64 (aV q)):=by have:=zg 0 (by simp[aS]) 0 _ rfl;simpa[aS]using this
   have j1:E.cell? ⟨g,oo+1,none⟩=some (.int .i64 (aV O)):=by have:=zg 1 (by simp[aS]) 0 _ rfl;simpa[aS]using this
   have j2:E.cell? ⟨g,oo+2,none⟩=some (.int .i64 (aV f)):=by have:=zg 2 (by simp[aS]) 0 _ rfl;simpa[aS]using this
   have j3:E.cell? ⟨g,oo+3,none⟩=some (.int .i64 (aV N)):=by have:=zg 3 (by simp[aS]) 0 _ rfl;simpa[aS]using this
   have j4:E.cell? ⟨g,oo+4,none⟩=some (.int .i64 (aV l)):=by have:=zg 4 (by simp[aS]) 0 _ rfl;simpa[aS]using this
   have e5:(aS [q,O,f,N,l]).length=5:=rfl;rw[e5];clear e5 zg;obtain⟨je,qh⟩:=zJ YY [[]] cs 1 0 yt.oQ.symm (by simp) (by simp);obtain⟨x,hx⟩:=bP (⟨nm,aV q,aV O,aV f,aV N,aV l,wa,wl,wc,aL,aS Q,cL⟩:Wx);have xj:Hid (qK (uQ nm q O f N l Q cs) x):=by rw[Hid,hx];exact BP yk
   have ql:Hid (iL E x):=by
    rw[Hid,hx];refine⟨⟨qf,λy m=>(xg y m).1,qg⟩,⟨?_,λy m=>?_,?_,?_⟩,λy m=>(xg y m).2⟩
    · show wl.length<=1048576
      have:wl.length=cs.length:=by rw[←yk,List.length_map]
      omega
    · have:=qh y.l (by rw[←yk];exact List.mem_map_of_mem m)
      omega
    · show(aS Q).length<=1048576
      rw[eC];exact yi
    · show nm.size<=_
      omega
   replace R:E.cell? ⟨bl,M+1,none⟩=some (.string x.n):=by rw[hx];exact R
   replace j0:E.cell? ⟨g,oo,none⟩=some (.int .i64 x.q):=by rw[hx];exact j0
   replace j1:E.cell? ⟨g,oo+1,none⟩=some (.int .i64 x.s):=by rw[hx];exact j1
   replace j2:E.cell? ⟨g,oo+2,none⟩=some (.int .i64 x.f):=by rw[hx];exact j2
   replace j3:E.cell? ⟨g,oo+3,none⟩=some (.int .i64 x.b):=by rw[hx];exact j3
   replace j4:E.cell? ⟨g,oo+4,none⟩=some (.int .i64 x.l):=by rw[hx];exact j4
   replace zh:v3=.slice x.la x.ll.length x.lc:=by rw[hx];exact zh
   replace zi:v4=.slice x.wa x.wl.length x.wc:=by rw[hx];exact zi
   subst zh;subst zi;obtain⟨X,hX⟩:=bP (uQ nm q O f N l Q cs);have S:Hid (jW s ws.tail=nK s X):=by rw[Hid,z.oQ,hX];rfl
   rw[←hX]at xj;obtain⟨d,i,kk,xs,xq⟩:=OI s.b X;have qr:=aG xs;have qo:=aG xq;obtain⟨yo,yp⟩:=AB s.b X;obtain⟨cd,xb⟩:=bP (dL s.b X);rw[←xb]at yo yp;have zt:=aG xb.symm;have zu:=aG yr.oQ;have hmk:8<=m:=by omega
   clear xb xs xq hX hx je qh yk qf xg qg z zn zo zv yt jb HM jc ja yi xi yr
   go_upto_region 6 with fail
   refine SZ 6 32 34 [some 45,some 46,some 47,some 48,some 49,some 50,some 51,some 52,some 53,some 54,some 55,some 56,some 57,some 58,some 59,some 60,some 61,some 62,some 63,some 64,some 65,some 66,some 67,some 68,some 69,some 70,some 44,some 71,some 72,some 73,some 11,some 12,none,none] SF V8 (KW D b x (.slice (some ⟨bl,M,none⟩) m zs) (.slice (some ⟨g,oo,none⟩) 5 c5) bl M g oo (dM s.b s.b.now (eU s.b X)) d i kk cd E.heap.size) (YT d i kk cd) (ZG E (dM s.b s.b.now (eU s.b X)) d i kk cd) KW.zL KW.loc KW.free ?step ?free ?g0 ?gf ?store ?fin
   case step=>
    intro ii o W w' yh j F u;obtain⟨jk,jl,jm,z3z⟩:=(za.zL F).c;have z4z:=(F.cell (aA R)).trans R;have z5z:=(F.cell (aA j0)).trans j0;have z6z:=(F.cell (aA j1)).trans j1;have z7z:=(F.cell (aA j2)).trans j2;have z8z:=(F.cell (aA j3)).trans j3;have z9z:=(F.cell (aA j4)).trans j4
    match ii,yh with
    |1,_|2,_|3,_|5,_|6,_|8,_|9,_|11,_|12,_|14,_|15,_|17,_|18,_|20,_|21,_|24,_=>
     simp at j;subst j
     simp[Region.binds,KW]at u
     simp only[aE,Act.put,u];gi_wp2;exact⟨_,by simp[aH,u],rfl,br _ _⟩
    |0,_|4,_|7,_|10,_|13,_|16,_|19,_|22,_|23,_=>
     simp at j;subst j;simp only[aE,Act.put];gi_wp2;exact⟨_,by simp[aH],rfl,br _ _⟩
    |25,_=>
     simp at j;subst j
     simp[Region.binds,KW]at u
     simp only[aE,Act.put,u];gi_wp2_with fail
     refine⟨trivial,rfl,?_⟩;refine(cw.2 (PP (za.zL F).b jd.b (ql.oQ.zL F) xj.oQ)).mono ?_;rintro e w5 ⟨⟨b',rfl,G,H⟩,U⟩;rw[qr.oQ,zt.oQ];have zk:=aG (G);have zm:=aG (H.weak F.size);clear G H;gi_wp2;exact⟨_,by simp[aH,u],⟨b',rfl,zk.oQ,zm.oQ⟩,U⟩
    |26,_=>
     simp at j;subst j;obtain⟨b',xm,G,H⟩:=Zq u 25;have zk:=aG (G);have zm:=aG (H);clear G H u;simp only[aE,Act.put,xm];gi_wp2;exact⟨_,by simp[aH,xm],⟨b',rfl,zk.oQ,zm.oQ⟩,br _ _⟩
    |27,_=>
     simp at j;subst j;obtain⟨b',C,G,H⟩:=Zq u 26;have zk:=aG (G);have zm:=aG (H);clear G H u;simp only[aE,Act.put,C];gi_wp2;exact⟨_,by simp[aH,C],⟨b',by simp[aH,C],rfl,zk.oQ,zm.oQ⟩,br _ _⟩
    |28,_|29,_=>
     simp at j;subst j;obtain⟨b',C,G,H⟩:=Zq u 26;clear G H u;simp only[aE,Act.put,C];gi_wp2;exact⟨_,by simp[aH,C],rfl,br _ _⟩
    |30,_|31,_=>
     simp at j;subst j;simp only[aE,Act.put];gi_wp2;exact⟨_,by simp[aH],⟨_,rfl,F.size,wnq w' _⟩,aB (br _ _) _⟩
    |q+32,h=>exact absurd h (by omega)
   case free=>
    intro ii o W w' t yh xc j ht htM a u;obtain⟨b',p,q,a⟩:=a;have C:=a.tt
    have xd:ii=28∨ii=29:=by
     simp[SF]at xc;omega
    clear a u
    rcases xd with rfl|rfl
    · simp at j
      subst j;simp only[aE,Act.put,C];gi_wp2;exact⟨fW d i kk,by simp[aH,C],rfl,trivial⟩
    · simp at j
      subst j;simp only[aE,Act.put,C];gi_wp2;exact⟨.int .i64 cd,by simp[aH,C],rfl,trivial⟩
   case g0=>
    intro W w' F hp;obtain⟨b',qs,qt,h1,h2⟩:=hp 27 (by decide) rfl;obtain⟨p,ep,zp,P⟩:=hp 30 (by decide) rfl;obtain⟨q,eq,zq,A⟩:=hp 31 (by decide) rfl;exact⟨b',p,q,qs,qt,ep,eq,F,h1,h2,zp,zq,λ_=>P,λh=>absurd h (by decide),λ_=>A,λh=>absurd h (by decide)⟩
   case gf=>
    intro t W w' ii v xc a;obtain⟨b',p,q,a⟩:=a
    have xd:ii=28∨ii=29:=by
     simp[SF]at xc;omega
    rcases xd with rfl|rfl<;>exact⟨b',p,q,a.tt,a.v,a.vp,a.vq,a.bel,a.cnt,a.sp,a.zp,a.zq,a.p0,a.p1,a.q0,a.q1⟩
   case store=>
    intro t o W w' h12 h15 j a u;obtain⟨b',p,q,a⟩:=a;have ht:t=32∨t=33:=by omega
    rcases ht with rfl|rfl
    · simp at j
      subst j;have yx:=a.v;have Y:=a.vp;have P:=a.p0 rfl;obtain⟨jg,jh,ji⟩:=aM P;have jj:=iQ P;have k1:=aO P 0 (.int .i64 b'.now);have k2:=aO k1 1 (.slice b'.fa b'.fl.length b'.fc);have k3:=aO k2 2 (.slice b'.ha b'.hl.length b'.hc);have A:=a.q0 (by decide);have xe:q≠p:=λe=>by rw[e,P]at A;cases A
      have HQ:=aG (bE A (dC w' p b') xe);have HP:=aG k3;have yu:Hid (eF E.heap.size (f8 w' p b') b'):=a.sp.butT (dC w' p b') P (by decide) (by decide) (by decide);have yq:Hid (aF E (f8 w' p b')):=(dC w' p b').under a.bel (nlq _) (λk e=>by rw[e];exact a.zp);have B:Hid _:=a;clear a u P A k1 k2 k3;simp only[aE,Act.put,yx,Y];gi_wp2;exact⟨undef,by simp[aH,yx,Y],b',p,q,B.oQ.tt,yx,Y,B.oQ.vq,yq.oQ,B.oQ.cnt,yu.oQ,B.oQ.zp,B.oQ.zq,λh=>absurd h (by decide),λ_=>HP.oQ,λ_=>HQ.oQ,λh=>absurd h (by decide)⟩
    · simp at j
      subst j;have xn:W 28=fW d i kk:=u (eD 28) (by simp) rfl (by decide) rfl;have Z:=a.vq;have A:=a.q0 (by decide);obtain⟨jg,jh,ji⟩:=aM A;have jj:=iQ A;have k1:=aO A 0 (.int .i64 d);have k2:=aO k1 1 (.int .i64 i);have k3:=aO k2 2 (.int .i64 kk);have yg:aT (λr=>r=q) w' (((w'.setCell ⟨q,0,none⟩ (.int .i64 d)).setCell ⟨q,1,none⟩ (.int .i64 i)).setCell ⟨q,2,none⟩ (.int .i64 kk)):=(((aT.refl (λr=>r=q) w').set (g:=q) rfl _ _).set (g:=q) rfl _ _).set (g:=q) rfl _ _;have L:=a.p1 (by decide);have xe:p≠q:=λe=>by rw[←e,L]at A;simp[Bk.obj]at A
      have HP:=aG (bE L yg xe);have HQ:=aG k3;have yu:Hid (eF E.heap.size (((w'.setCell ⟨q,0,none⟩ (.int .i64 d)).setCell ⟨q,1,none⟩ (.int .i64 i)).setCell ⟨q,2,none⟩ (.int .i64 kk)) b'):=a.sp.butT yg A (by decide) (by decide) (by decide);have yq:Hid (aF E (((w'.setCell ⟨q,0,none⟩ (.int .i64 d)).setCell ⟨q,1,none⟩ (.int .i64 i)).setCell ⟨q,2,none⟩ (.int .i64 kk))):=yg.under a.bel (nlq _) (λk e=>by rw[e];exact a.zq);have B:Hid _:=a;clear a u L A k1 k2 k3 yg;simp only[aE,Act.put,xn,Z];gi_wp2;exact⟨undef,by simp[aH,xn,Z],b',p,q,B.oQ.tt,B.oQ.v,B.oQ.vp,Z,yq.oQ,B.oQ.cnt,yu.oQ,B.oQ.zp,B.oQ.zq,λh=>absurd h (by decide),λ_=>HP.oQ,λh=>absurd h (by decide),λ_=>HQ.oQ⟩
   case fin=>
    intro W w' a hp;obtain⟨b',p,q,a⟩:=a;have xo:W 29=.int .i64 cd:=hp 29 (by decide) rfl;have Y:=a.vp;have Z:=a.vq;have ye:=za.zL a.bel;have xu:dZ (λk=>k=D) w' (dM s.b s.b.now (eU s.b X)) b':=a.sp.at (λk e=>by rw[e];exact gT za.o) a.cnt;have zl:=aG (ye.put xu);have zj:=aG ((aT.below (aC zu.oQ a.bel)).trans (dC w' D b'));obtain⟨y0,y1,y2,y3⟩:=ye.c;have yf:=ye.fz;have L:=a.p1 (by decide);have qc:=a.q1 (by decide);obtain⟨u0,u1,u2⟩:=aM L;have xr:q≠D:=λe=>by have:=a.zq;have:=gT za.o;omega
    have qd:=bE qc (dC w' D b') xr;obtain⟨v0,v1,v2⟩:=aM qd;clear hp a ye xu L qc xr qd;simp only[lds,List.drop_zero,aE,Act.put];rw[xo,Y,Z];clear xo Y Z;generalize W=W
    by_cases zf:cd=0
    · have xv:(cd !=0)=false:=by simp[zf]
      obtain⟨xx,qu,qv,qw,qx,qy,qz⟩:=qo.oQ (by rw[zt.oQ];exact zf);obtain⟨s0,zw⟩:∃s,s=dD d:=⟨_,rfl⟩;obtain⟨s1,zx⟩:∃s,s=(⟨#[108,97,116,101,32]⟩:ByteArray)++s0:=⟨_,rfl⟩;obtain⟨s2,zy⟩:∃s,s=s1++(⟨#[32,119,97,121,32]⟩:ByteArray):=⟨_,rfl⟩;obtain⟨s3,zz⟩:∃s,s=dD i:=⟨_,rfl⟩;obtain⟨s4,ya⟩:∃s,s=s2++s3:=⟨_,rfl⟩;obtain⟨s5,yb⟩:∃s,s=s4++(⟨#[32,108,101,118,101,108,32]⟩:ByteArray):=⟨_,rfl⟩;obtain⟨s6,yc⟩:∃s,s=dD kk:=⟨_,rfl⟩;obtain⟨s7,yd⟩:∃s,s=s5++s6:=⟨_,rfl⟩;have jn:s0.size<=2000001:=by rw[zw];exact bG qv
      have jo:s1.size=5+s0.size:=by rw[zx,ByteArray.size_append];rfl
      have jp:s2.size=s1.size+5:=by rw[zy,ByteArray.size_append];rfl
      have jq:s3.size<=2000001:=by rw[zz];exact bG qx
      have jr:s4.size=s2.size+s3.size:=by rw[ya,ByteArray.size_append]
      have js:s5.size=s4.size+7:=by rw[yb,ByteArray.size_append];rfl
      have jt:s6.size<=2000001:=by rw[yc];exact bG qz
      have ju:s7.size=s5.size+s6.size:=by rw[yd,ByteArray.size_append]
      have gs1:¬9223372036854775807<5+s0.size:=by omega
      have gs2:¬9223372036854775807<s1.size+5:=by omega
      have gs4:¬9223372036854775807<s2.size+s3.size:=by omega
      have gs5:¬9223372036854775807<s4.size+7:=by omega
      have gs7:¬9223372036854775807<s5.size+s6.size:=by omega
      have zr:Hid (nK s X=(⟨dM s.b s.b.now (eU s.b X),s.t⟩,s7)):=by
       rw[Hid,nK,zt.oQ,if_pos zf,xx,←zw,←zx,←zy,←zz,←ya,←yb,←yc,←yd]
      have qi:=aG zw;have fs1:=zx.symm;have fs2:=zy.symm;have qj:=aG zz;have fs4:=ya.symm;have fs5:=yb.symm;have qk:=aG yc;have fs7:=yd.symm;clear xx zw jn zx jo zy jp zz jq ya jr yb js yc jt yd ju;subst zf;gi_wp2_with fail
      go_upto_region 10 with fail
      obtain⟨W7,yy⟩:=cK (((w'.setCell ⟨D,0,none⟩ (.int .i64 b'.now)).setCell ⟨D,1,none⟩ (.slice b'.fa b'.fl.length b'.fc)).setCell ⟨D,2,none⟩ (.slice b'.ha b'.hl.length b'.hc));have yn:f8 w' D b'=W7:=yy;rw[yn]at v0 v1 v2 zl zj;rw[yy];clear yy yn y0 y1 y2 y3 yf u0 u1 u2;refine pG 14 [some 82,some 83,some 84,some 85,some 86,some 87,some 88,some 89,some 90,some 91,some 92,some 93,some 94,some 95] (CV q d i kk s0 s1 s2 s3 s4 s5 s6 s7) (λ_ _ _ _ h _=>h) ?step ?fin
      case step=>
       intro ii o W w' yh j F u;have jk:=(F.cell (aA v0)).trans v0;have jl:=(F.cell (aA v1)).trans v1;have jm:=(F.cell (aA v2)).trans v2
       match ii,yh with
       |1,_|3,_|4,_|6,_|8,_|9,_|11,_|13,_=>
        simp at j;subst j
        simp[Region.binds,CV]at u
        simp only[aE,Act.put,u];gi_wp2;exact⟨_,by simp[aH,u],rfl,br _ _⟩
       |0,_|5,_|10,_=>
        simp at j;subst j;simp only[aE,Act.put];gi_wp2;exact⟨_,by simp[aH],rfl,br _ _⟩
       |2,_=>
        simp at j;subst j
        simp[Region.binds,CV]at u
        simp only[aE,Act.put,u];gi_wp2_with fail
        refine⟨trivial,rfl,?_⟩;refine(cw.2 (mR d w' qu (by omega))).mono ?_;rintro e w5 ⟨rfl,U⟩;rw[←qi.out];gi_wp2;exact⟨_,by simp[aH,u],rfl,U⟩
       |7,_=>
        simp at j;subst j
        simp[Region.binds,CV]at u
        simp only[aE,Act.put,u];gi_wp2_with fail
        refine⟨trivial,rfl,?_⟩;refine(cw.2 (mR i w' qw (by omega))).mono ?_;rintro e w5 ⟨rfl,U⟩;rw[←qj.out];gi_wp2;exact⟨_,by simp[aH,u],rfl,U⟩
       |12,_=>
        simp at j;subst j
        simp[Region.binds,CV]at u
        simp only[aE,Act.put,u];gi_wp2_with fail
        refine⟨trivial,rfl,?_⟩;refine(cw.2 (mR kk w' qy (by omega))).mono ?_;rintro e w5 ⟨rfl,U⟩;rw[←qk.out];gi_wp2;exact⟨_,by simp[aH,u],rfl,U⟩
       |q+14,h=>exact absurd h (by omega)
      case fin=>
       intro W w8 F hp;have xp:W 13=.string s7:=hp 13 (by decide);have qp:Hid _:=zl.oQ.zL F;have qm:Hid _:=zj.oQ.trans (aT.below F);clear hp F zl zj;simp only[lds,List.drop_zero,aE,Act.put];rw[xp];clear xp;generalize W=W;gi_wp2_with fail
       go_wp2
       go_ret;exact⟨⟨_,_,_,by rw[S.oQ,zr.oQ];exact qp.oQ⟩,by rw[S.oQ,zr.oQ];rfl,qm.oQ⟩
    · have xv:(cd !=0)=true:=by simp[zf]
      have zr:Hid (nK s X=(⟨dM s.b s.b.now (eU s.b X),s.t⟩,iK cd)):=by rw[Hid,nK,zt.oQ,if_neg zf]
      gi_wp2_with fail
      go_wp2_with fail
      refine(AT cd _ yo yp).mono ?_;rintro e w9 ⟨rfl,xa⟩;have qq:Hid _:=zl.oQ.zL xa;have qn:Hid _:=zj.oQ.trans (aT.below xa);clear xa zl zj;go_wp2
      go_ret;exact⟨⟨_,_,_,by rw[S.oQ,zr.oQ];exact qq.oQ⟩,by rw[S.oQ,zr.oQ];rfl,qn.oQ⟩
 · have S:Hid (jW s ws.tail=(s,cX)):=by
    rw[Hid,z.oQ]
    split
    · rename_i h
      rw[bat]at h
      split
      · exact absurd ⟨h.1,h.2,_,rfl⟩ V
      · rfl
    · rfl
   clear z zn zo zv yt
   cases p1<;>cases p2<;>cases ow
   all_goals first
    |exact absurd ⟨rfl,rfl,_,rfl⟩ V
    |(clear V;go_wp2;go_ret;exact⟨⟨_,_,_,by rw[S.oQ];exact za⟩,by rw[S.oQ];rfl,aT.below yr.oQ⟩)
end Go.Proofs.YtcdbcliaepcpfaaGreatDoor
namespace Go.Proofs.YtcdbcliaepcpfaaGreatDoor
set_option maxRecDepth 100000
set_option maxHeartbeats 16000000
open Go.RowKit Go.Shelf Go.BigFrame
attribute [local go_sem] Oper.semAt_some
def X6 (A k:Nat)(y:Fx)(h0 h4 h12 vw p7 vn p10 p13:Value):Nat->Option Value
 |1|18|23=>some (.pointer (some ⟨A,1,none⟩))
 |2|19=>some h0
 |3|20=>some (.int .i64 (k:Int))
 |4=>some h4
 |6=>some vw
 |7=>some p7
 |8=>some (.string y.n)
 |9|12=>some vn
 |10=>some p10
 |11=>some (.int .i64 y.x)
 |13=>some p13
 |14=>some (.int .i64 y.y)
 |15=>some y.val
 |21=>some h12
 |_=>none
structure KF (Wd:World)(A k:Nat)(l:List Fx)(y:Fx)(h0 h4 h12 vw p7 vn p10 p13:Value)(L:Nat->Prop)(vs:Nat->Value)(w':World):Prop where
 c:∀j v,X6 A k y h0 h4 h12 vw p7 vn p10 p13 j=some v->L j->vs j=v
 v0:L 0->∃p,vs 0=.slice (some ⟨p,0,none⟩) 0 0/\Wd.heap.size<=p/\(¬L 5->w'.heap[p]?=some (.cells #[] 74))
 v5:L 5->¬L 17->w'.ownsRow Wd.heap.size 74 3 (vs 5) k (aI Fx.cells (l.take k))
 v7:L 16->∃V,vs 16=.slice (some ⟨V,0,none⟩) 1 1/\(¬L 17->w'.heap[V]?=some (.cells #[.string y.n,.int .i64 y.x,.int .i64 y.y] 74))
 v8:L 17->¬L 22->w'.ownsRow Wd.heap.size 74 3 (vs 17) (k+1) (aI Fx.cells (l.take k)++y.cells)
 v13:L 22->¬L 24->w'.ownsRow Wd.heap.size 74 3 (vs 22) (l.length+1) (aI Fx.cells (l.take k)++y.cells++aI Fx.cells (l.drop k))
 w15:L 24->∃w0,aF Wd w0/\w0.ownsRow Wd.heap.size 74 3 (vs 22) (l.length+1) (aI Fx.cells (l.take k)++y.cells++aI Fx.cells (l.drop k))/\w'=w0.setCell ⟨A,1,none⟩ (vs 22)
 bw:¬L 24->aF Wd w'
theorem KF.ext {e:World}{A k:Nat}{l:List Fx}{y:Fx}{f g a o i m b c:Value}(L d:Nat->Prop)(n:Nat->Value)(w':World)(h:∀j,L j↔d j)(q:KF e A k l y f g a o i m b c L n w'):KF e A k l y f g a o i m b c d n w':=by
 obtain rfl:L=d:=funext λj=>propext (h j);exact q
theorem KF.zL {o:World}{A k:Nat}{l:List Fx}{y:Fx}{r s b w t u d f:Value}{L:Nat->Prop}{v:Nat->Value}{w' i:World}(q:KF o A k l y r s b w t u d f L v w')(j:¬L 24)(a:aF w' i):KF o A k l y r s b w t u d f L v i:=
 ⟨q.c,λh=>by obtain⟨p,e,x,m⟩:=q.v0 h;exact⟨p,e,x,λn=>bJ (m n) a⟩,λh g=>lM (q.v5 h g) a,λh=>by obtain⟨V,e,m⟩:=q.v7 h;exact⟨V,e,λn=>bJ (m n) a⟩,λh g=>lM (q.v8 h g) a,λh g=>lM (q.v13 h g) a,λh=>absurd h j,λh=>aC (q.bw h) a⟩
theorem KF.cc {s:World}{A k:Nat}{l:List Fx}{y:Fx}{g m a r o p b d:Value}{L:Nat->Prop}{f:Nat->Value}{w':World}(q:KF s A k l y g m a r o p b d L f w')(i:Nat)(v:Value)(t:∀u,X6 A k y g m a r o p b d i=some u->u=v):∀j u,X6 A k y g m a r o p b d j=some u->(L j∨j=i)->aH f i v j=u:=λj u e h=>by
 by_cases n:j=i;·subst n;rw[t u e];simp[aH]
 ·rw[show aH f i v j=f j from by simp[aH,n]];exact q.c j u e (h.resolve_right n)
theorem KF.addc {C:World}{A k:Nat}{l:List Fx}{y:Fx}{d f a t o r b c:Value}{L:Nat->Prop}{x:Nat->Value}{w':World}(q:KF C A k l y d f a t o r b c L x w')(i:Nat){v:Value}(D:X6 A k y d f a t o r b c i=some v):KF C A k l y d f a t o r b c (λj=>L j∨j=i) (aH x i v) w':=by
 have n:∀m,X6 A k y d f a t o r b c m=none->m≠i:=λm w e=>by rw[e,D]at w;cases w
 have u:∀m,X6 A k y d f a t o r b c m=none->aH x i v m=x m:=λm w=>by simp[aH,n m w]
 refine⟨q.cc i v (λu e=>by rw[D]at e;cases e;rfl),λh=>?_,λh g=>?_,λh=>?_,λh g=>?_,λh g=>?_,λh=>?_,λh=>q.bw (λs=>h (.inl s))⟩;·rw[u 0 rfl];obtain⟨p,e,E,z⟩:=q.v0 (h.resolve_right (n 0 rfl));exact⟨p,e,E,λB=>z (λs=>B (.inl s))⟩
 ·rw[u 5 rfl];exact q.v5 (h.resolve_right (n 5 rfl)) (λs=>g (.inl s))
 ·rw[u 16 rfl];obtain⟨V,e,z⟩:=q.v7 (h.resolve_right (n 16 rfl));exact⟨V,e,λB=>z (λs=>B (.inl s))⟩
 ·rw[u 17 rfl];exact q.v8 (h.resolve_right (n 17 rfl)) (λs=>g (.inl s))
 ·rw[u 22 rfl];exact q.v13 (h.resolve_right (n 22 rfl)) (λs=>g (.inl s))
 ·rw[u 22 rfl];exact q.w15 (h.resolve_right (n 24 rfl))
theorem KF.add0 {d:World}{A k:Nat}{l:List Fx}{y:Fx}{i m a t n o b c:Value}{L:Nat->Prop}{r:Nat->Value}{w':World}{v:Value}(q:KF d A k l y i m a t n o b c L r w')(x:∃p,v=.slice (some ⟨p,0,none⟩) 0 0/\d.heap.size<=p/\w'.heap[p]?=some (.cells #[] 74)):KF d A k l y i m a t n o b c (λj=>L j∨j=0) (aH r 0 v) w':=
 ⟨q.cc 0 v (λ_ e=>by cases e),λ_=>by obtain⟨p,e,u,f⟩:=x;exact⟨p,e,u,λ_=>f⟩,λh g=>q.v5 (iF h) (λs=>g (.inl s)),λh=>by obtain⟨V,e,f⟩:=q.v7 (iF h);exact⟨V,e,λw=>f (λs=>w (.inl s))⟩,λh g=>q.v8 (iF h) (λs=>g (.inl s)),λh g=>q.v13 (iF h) (λs=>g (.inl s)),λh=>q.w15 (iF h),λh=>q.bw (λs=>h (.inl s))⟩
theorem KF.add5 {d:World}{A k:Nat}{l:List Fx}{y:Fx}{i n a u o r b c:Value}{L:Nat->Prop}{t:Nat->Value}{w':World}{v:Value}(q:KF d A k l y i n a u o r b c L t w')(x:w'.ownsRow d.heap.size 74 3 v k (aI Fx.cells (l.take k))):KF d A k l y i n a u o r b c (λj=>L j∨j=5) (aH t 5 v) w':=
 ⟨q.cc 5 v (λ_ e=>by cases e),λh=>by obtain⟨p,e,w,m⟩:=q.v0 (iF h);exact⟨p,e,w,λf=>absurd (.inr rfl) f⟩,λ_ _=>x,λh=>by obtain⟨V,e,m⟩:=q.v7 (iF h);exact⟨V,e,λf=>m (λs=>f (.inl s))⟩,λh g=>q.v8 (iF h) (λs=>g (.inl s)),λh g=>q.v13 (iF h) (λs=>g (.inl s)),λh=>q.w15 (iF h),λh=>q.bw (λs=>h (.inl s))⟩
theorem KF.add7 {f:World}{A k:Nat}{l:List Fx}{y:Fx}{i m a u o r b c:Value}{L:Nat->Prop}{t:Nat->Value}{w':World}{v:Value}(q:KF f A k l y i m a u o r b c L t w')(B:∃V,v=.slice (some ⟨V,0,none⟩) 1 1/\w'.heap[V]?=some (.cells #[.string y.n,.int .i64 y.x,.int .i64 y.y] 74)):KF f A k l y i m a u o r b c (λj=>L j∨j=16) (aH t 16 v) w':=
 ⟨q.cc 16 v (λ_ e=>by cases e),λh=>by obtain⟨p,e,w,d⟩:=q.v0 (iF h);exact⟨p,e,w,λz=>d (λs=>z (.inl s))⟩,λh g=>q.v5 (iF h) (λs=>g (.inl s)),λ_=>by obtain⟨V,e,d⟩:=B;exact⟨V,e,λ_=>d⟩,λh g=>q.v8 (iF h) (λs=>g (.inl s)),λh g=>q.v13 (iF h) (λs=>g (.inl s)),λh=>q.w15 (iF h),λh=>q.bw (λs=>h (.inl s))⟩
theorem KF.add8 {f:World} {A k:Nat} {l:List Fx} {y:Fx} {n o b u r s c d:Value} {L:Nat->Prop} {t:Nat->Value} {w' a:World} {v:Value} (q:KF f A k l y n o b u r s c d L t w') (x:L 5) (i:¬L 22) (m:¬L 24) (B:a.ownsRow f.heap.size 74 3 v (k+1) (aI Fx.cells (l.take k)++y.cells)) (z:aF f a):KF f A k l y n o b u r s c d (λj=>L j∨j=17) (aH t 17 v) a:=
 ⟨q.cc 17 v (λ_ e=>by cases e),λh=>by obtain⟨p,e,w,_⟩:=q.v0 (iF h);exact⟨p,e,w,λg=>absurd (.inl x) g⟩,λ_ g=>absurd (.inr rfl) g,λh=>by obtain⟨V,e,_⟩:=q.v7 (iF h);exact⟨V,e,λg=>absurd (.inr rfl) g⟩,λ_ _=>B,λh=>absurd (iF h) i,λh=>absurd (iF h) m,λ_=>z⟩
theorem KF.add13 {f:World} {A k:Nat} {l:List Fx} {y:Fx} {m n b u r s c d:Value} {L:Nat->Prop} {t:Nat->Value} {w' a:World} {v:Value} (q:KF f A k l y m n b u r s c d L t w') (x:L 5) (o:L 17) (i:¬L 24) (B:a.ownsRow f.heap.size 74 3 v (l.length+1) (aI Fx.cells (l.take k)++y.cells++aI Fx.cells (l.drop k))) (z:aF f a):KF f A k l y m n b u r s c d (λj=>L j∨j=22) (aH t 22 v) a:=
 ⟨q.cc 22 v (λ_ e=>by cases e),λh=>by obtain⟨p,e,w,_⟩:=q.v0 (iF h);exact⟨p,e,w,λg=>absurd (.inl x) g⟩,λ_ g=>absurd (.inl o) g,λh=>by obtain⟨V,e,_⟩:=q.v7 (iF h);exact⟨V,e,λg=>absurd (.inl o) g⟩,λ_ g=>absurd (.inr rfl) g,λ_ _=>B,λh=>absurd (iF h) i,λ_=>z⟩
theorem KF.add15 {m:World}{A k:Nat}{l:List Fx}{y:Fx}{n o a u s t d f:Value}{L:Nat->Prop}{i:Nat->Value}{w':World}{v:Value}(q:KF m A k l y n o a u s t d f L i w')(x:L 5)(r:L 17)(b:L 22)(c:¬L 24):KF m A k l y n o a u s t d f (λj=>L j∨j=24) (aH i 24 v) (w'.setCell ⟨A,1,none⟩ (i 22)):=
 ⟨q.cc 24 v (λ_ e=>by cases e),λh=>by obtain⟨p,e,w,_⟩:=q.v0 (iF h);exact⟨p,e,w,λg=>absurd (.inl x) g⟩,λ_ g=>absurd (.inl r) g,λh=>by obtain⟨V,e,_⟩:=q.v7 (iF h);exact⟨V,e,λg=>absurd (.inl r) g⟩,λ_ g=>absurd (.inl b) g,λ_ g=>absurd (.inr rfl) g,λ_=>⟨w',q.bw c,q.v13 b c,rfl⟩,λh=>absurd (.inr rfl) h⟩
theorem RH {w W:World}{g a k:Nat}{l:List Fx}(h:fP 74 3 Fx.cells w g a l l.length)(c:l.length<=a)(b:aF w W):∀j u,(aI Fx.cells (l.take k))[j]?=some u->W.cell? ((⟨g,0,none⟩:Addr).add j)=some u:=
 mG Fx.cells_length (by decide) (λi d=>by
  rw[List.getElem_take];exact(h.xs' Fx.cells_length (nlq _) c i (by simp at d;omega)).zL b)
theorem QH {w W:World}{g a k:Nat}{l:List Fx}(h:fP 74 3 Fx.cells w g a l l.length)(c:l.length<=a)(b:aF w W):∀j u,(aI Fx.cells (l.drop k))[j]?=some u->W.cell? ((⟨g,k*3,none⟩:Addr).add j)=some u:=
 mG Fx.cells_length (by decide) (λi d=>by
  rw[List.getElem_drop];have:=(h.xs' Fx.cells_length (nlq _) c (k+i) (by simp at d;omega)).zL b;rwa[Nat.zero_add,Nat.add_mul]at this)
theorem yN {l:List Fx}{nm:ByteArray}{k:Nat}(d:k<=l.length)(c:∀j (h:j<l.length),j<k->fY l[j].n nm=true)(b:∀h:k<l.length,fY l[k].n nm=false):oJ l nm=k:=by
 induction l generalizing k with
 |nil=>simp at d;subst d;rfl
 |cons a r ih=>
  cases k with
  |zero=>
   have:=b (by simp);simp only[List.getElem_cons_zero]at this;simp[oJ,this]
  |succ m=>
   have e:=c 0 (by simp) (by omega);simp only[List.getElem_cons_zero]at e;have:=ih (k:=m) (by simpa using d) (λj h hj=>by have:=c (j+1) (by simpa using h) (by omega);simpa using this) (λh=>by have:=b (by simpa using h);simpa using this);simp only[oJ]at this ⊢;simp[e,this]
theorem YC {w:World}{a o:Nat}{h:Fx}(b:aZ w a o h.cells):w.cell? ⟨a,o,none⟩=some (.string h.n):=b 0 _ rfl
theorem ws4 {a:List ByteArray}(h:a.length=4):∃n nm x y,a=[n,nm,x,y]:=by
 match a,h with
 |[n,nm,x,y],_=>exact⟨n,nm,x,y,rfl⟩
theorem MX (D:Nat)(w:World)(s:St)(b:Bk)(ta:Option Addr)(tc kk:Nat)(hS:nU D w s b ta tc)(xv:iP kk s)(ws:List ByteArray)(bl Z zb:Nat)(hX:Xs 1 dS w (some ⟨bl,Z,none⟩) ws)(h4:ws.length=4)(M:ws.length<=zb)(qa:∀x∈ws,x.size<=1048575):
 aY 14 #[.pointer (some ⟨D,0,none⟩),.slice (some ⟨bl,Z,none⟩) ws.length zb] w λe w'=>OP D w (fT s ws.tail) e w':=by
 obtain⟨jf,yv,yz,xa,xb⟩:=info_parts Tryz.info74;obtain⟨n,nm,xw,yw,zy⟩:=ws4 h4;have xr:Xs 1 dS w (some ⟨bl,Z+2,none⟩) [xw,yw]:=i7 hX 2 [n,nm] _ [] (by rw[zy];rfl) rfl;have G:=gO hX 1 nm (by rw[zy];rfl);have qo:nm.size<=1048575:=qa nm (by rw[zy];simp);have zd:Hid (fT s ws.tail=if jG [xw,yw]then(if aN (gH s.b ⟨nm,aV xw,aV yw⟩)then(⟨gH s.b ⟨nm,aV xw,aV yw⟩,s.t⟩,SE)else(s,WT))else(s,cX)):=by rw[zy];rfl
 rw[h4]at M ⊢;clear zy hX qa h4 n
 go_enter Tryz.func14,Tryz.ntmps14
 go_wp2_with fail
 refine(bW [xw,yw] (some ⟨bl,Z+2,none⟩) (zb-2) w xr (by simp)).mono ?_;rintro e w1 ⟨⟨v1,rfl,qb⟩,Q⟩;have yn:=aG qb;have xg:=aG Q
 replace G:=(Q.cell (aA G)).trans G
 replace hS:=hS.zL Q
 clear qb Q xr
 cases zc:jG [xw,yw]with
 |false=>
  have HR:Hid (fT s ws.tail=(s,cX)):=by rw[Hid,zd.oQ,zc];rfl
  clear zc yn zd;go_wp2
  go_ret;exact⟨⟨_,_,_,by rw[HR.oQ];exact hS⟩,by rw[HR.oQ];rfl,aT.below xg.oQ⟩
 |true=>
  obtain⟨a2',c2,rfl,qp⟩:=yn.oQ zc
  rcases qp with h|⟨g,oo,rfl,ys⟩
  ·simp[aS]at h
  have i0:w1.cell? ⟨g,oo,none⟩=some (.int .i64 (aV xw)):=by have:=ys 0 (by simp[aS]) 0 _ rfl;simpa[aS]using this
  have i1:w1.cell? ⟨g,oo+1,none⟩=some (.int .i64 (aV yw)):=by have:=ys 1 (by simp[aS]) 0 _ rfl;simpa[aS]using this
  have e5:(aS [xw,yw]).length=2:=rfl;rw[e5];obtain⟨y,hy⟩:=bP (⟨nm,aV xw,aV yw⟩:Fx);have xe:Hid (fT s ws.tail=if aN (gH s.b y)then(⟨gH s.b y,s.t⟩,SE)else(s,WT)):=by rw[Hid,zd.oQ,zc,hy];rfl
  have qk:Hid (y.n.size<=9223372036854775807):=by rw[Hid,hy];show nm.size<=_;omega
  replace G:w1.cell? ⟨bl,Z+1,none⟩=some (.string y.n):=by rw[hy];exact G
  replace i0:w1.cell? ⟨g,oo,none⟩=some (.int .i64 y.x):=by rw[hy];exact i0
  replace i1:w1.cell? ⟨g,oo+1,none⟩=some (.int .i64 y.y):=by rw[hy];exact i1
  have E:=hS.b.asks xv.b;obtain⟨c0,c1,ql,c3⟩:=hS.c;have zu:b.fl.length<=4:=(EN (hS.b.book.trans xv.b)).1;clear hy e5 ys yn zd zc qo;go_wp2_with fail
  refine(jV b w1 E.hf E.hnf E.hh E.hnh E.hgood).mono ?_;rintro e w2 ⟨⟨c,rfl,xt,yb,zf,zj⟩,H⟩;have yl:Hid (KE s.b.now s.b.fl s.b.hl c):=⟨xt.trans hS.b.c.now,yb.trans hS.b.c.fl,hS.b.c.lk.trans zf⟩;have xf:Hid (∀f∈c.fl,f.n.size<=9223372036854775807):=by rw[Hid,yb];exact E.hs
  have qf:Hid (c.hl.length<=1048576):=by rw[Hid,zf.len];exact E.hnh
  have qe:Hid (∀x∈c.hl,x.Fit):=zf.fit (λx hx=>(E.hgood x hx).2);have hcl4:c.fl.length<=4:=by rw[yb];exact zu
  have xi:=aG (aC xg.oQ H)
  replace G:=(H.cell (aA G)).trans G
  replace i0:=(H.cell (aA i0)).trans i0
  replace i1:=(H.cell (aA i1)).trans i1
  have qm:D<w1.heap.size:=gT hS.o
  replace hS:=hS.zL H
  have za:Hid (aF w2 (w2.alloc c.obj)):=aB (br _ _) _;have zz:=wnq w2 c.obj
  replace G:=(za.oQ.cell (aA G)).trans G
  replace i0:=(za.oQ.cell (aA i0)).trans i0
  replace i1:=(za.oQ.cell (aA i1)).trans i1
  have xd:=aG (zj.zL za.oQ);have hs12:=H.size;have xz:=za.oQ.size;have hO:=(zj.zL za.oQ).f;obtain⟨A,yp⟩:=bP w2.heap.size;have hA2:w2.heap.size<=A:=by omega
  rw[←yp]at zz;obtain⟨W2,xo⟩:=cK (w2.alloc c.obj);rw[xo]at zz G i0 i1 za xd hO xz;have xc:=aG zz;clear xt yb zf E H c0 c1 ql c3 zu zj zz
  go_upto_block 0 with fail
  rw[←yp];clear xo yp
  go_cut [8] (λiv wx=>∃k:Nat,k<=c.fl.length/\iv=.int .i64 (k:Int)/\aF W2 wx/\oJ c.fl y.n=k)
  case first=>
   go_wp2_with fail
   go_loopw [8] (λiv wr=>∃k:Nat,k<=c.fl.length/\iv=.int .i64 (k:Int)/\aF W2 wr/\Hid (∀j (h:j<c.fl.length),j<k->fY c.fl[j].n y.n=true)) (λiv _=>c.fl.length-(intOf iv).toNat)
   case atStart=>exact⟨0,nz _,rfl,br _ _,λj h S=>by omega⟩
   case round=>
    obtain⟨k,hk,rfl,hB,zl⟩:=hrel;have HB:=aG hB;have a2:wr.cell? ⟨A,1,none⟩=some (.slice c.fa c.fl.length c.fc):=aJ (bJ xc.oQ hB) rfl;have q1:=(hB.cell (aA G)).trans G
    by_cases yd:k<c.fl.length
    ·obtain⟨g',ha,yt,I⟩:∃g,c.fa=some ⟨g,0,none⟩/\c.fl.length<=c.fc/\fP 74 3 Fx.cells W2 g c.fc c.fl c.fl.length:=by
      rcases hO with⟨_,e⟩|⟨g,zb,e,_,h2,h3⟩
      ·rw[e]at yd;simp at yd
      ·simp only[Value.slice.injEq]at e
       obtain⟨G,_,rfl⟩:=e;exact⟨g,G,h2,h3⟩
     have c0:=YC (I.xs' Fx.cells_length (nlq _) yt k yd);rw[Nat.zero_add]at c0;have c0:=(hB.cell (aA c0)).trans c0;rw[ha]at a2;obtain⟨x,hx⟩:=bP (c.fl[k]);rw[←hx]at c0;have xj:=aG hx;clear hx ha I hO hB
     cases hq:fY x.n y.n with
     |true=>
      have qg:Hid (∀j (h:j<c.fl.length),j<k+1->fY c.fl[j].n y.n=true):=λj h S=>by
       by_cases e:j=k
       ·subst e;rw[←xj.oQ];exact hq
       ·exact zl.out j h (by omega)
      clear zl;unfold fY at hq;go_wp2_with fail
      go_quiet (fail)
      go_wp2
      go_roundw
      case rel=>exact⟨k+1,by omega,by go_num,(below_drewN HB.oQ _),qg⟩
      case measure=>simp[intOf];omega
     |false=>
      have zm:Hid (oJ c.fl y.n=k):=yN hk zl.out (λh=>by have e:=xj.oQ;rw[←e];exact hq);clear zl;unfold fY at hq;go_wp2_with fail
      go_quiet (fail)
      go_wp2
      all_goals go_meet
      all_goals exact⟨k,hk,rfl,(below_drewN HB.oQ _),zm.oQ⟩
    ·have zm:Hid (oJ c.fl y.n=k):=yN hk zl.out (λh=>absurd h yd)
     clear zl hO hB;go_wp2_with fail
     go_quiet (fail)
     go_wp2
     all_goals go_meet
     all_goals exact⟨k,hk,rfl,(below_drewN HB.oQ _),zm.oQ⟩
  case rest=>
   obtain⟨k,hk,rfl,hB,xy⟩:=hcut
   have ym:Hid (gU c.fl y=c.fl.take k++y::c.fl.drop k):=by
    show gU c.fl y=_
    unfold gU;rw[xy]
   obtain⟨J,zh⟩:∃J:Option Addr,(c.fa=none/\c.fl=[]/\c.fc=0/\J=none/\k=0)∨∃g,c.fa=some ⟨g,0,none⟩/\c.fl.length<=c.fc/\fP 74 3 Fx.cells W2 g c.fc c.fl c.fl.length/\((k<c.fc/\J=some ⟨g,k*3,none⟩)∨(¬k<c.fc/\J=some ⟨g,0,none⟩)):=by
    rcases hO with⟨e,zk⟩|⟨g,zb,e,_,M,I⟩
    ·simp only[Value.slice.injEq]at e
     exact⟨none,.inl ⟨e.1,zk,e.2.2,rfl,by rw[zk]at hk;simpa using hk⟩⟩
    ·simp only[Value.slice.injEq]at e
     obtain⟨G,_,rfl⟩:=e
     by_cases zw:k<c.fc
     ·exact⟨_,.inr ⟨g,G,M,I,.inl ⟨zw,rfl⟩⟩⟩
     ·exact⟨_,.inr ⟨g,G,M,I,.inr ⟨zw,rfl⟩⟩⟩
   have HA:Hid _:=zh
   have HN:Hid (c.fa=none->k=0):=λe=>by
    rcases zh with h|⟨g,O,_⟩
    ·exact h.2.2.2.2
    ·rw[e]at O;cases O
   have qh:Hid (J=none->c.fl=[]/\c.fc=0/\k=0):=λe=>by
    rcases zh with h|⟨g,_,_,_,⟨_,W⟩|⟨_,W⟩⟩
    ·exact⟨h.2.1,h.2.2.1,h.2.2.2.2⟩
    ·rw[e]at W;cases W
    ·rw[e]at W;cases W
   have Nd:aF W2 wc.drew:=hB.drew;obtain⟨Wd,xp⟩:=cK wc.drew;rw[xp]at Nd;have zg:=aG (bJ xc.oQ Nd);have a2:Wd.cell? ⟨A,1,none⟩=some (.slice c.fa c.fl.length c.fc):=aJ zg.oQ rfl
   replace G:=(Nd.cell (aA G)).trans G
   replace i0:=(Nd.cell (aA i0)).trans i0
   replace i1:=(Nd.cell (aA i1)).trans i1
   have hAw:A<Wd.heap.size:=gT zg.oQ
   have qj:Hid (∀ad,c.fa=some ad->∀w',aF Wd w'->∀j u,(aI Fx.cells (c.fl.take k))[j]?=some u->w'.cell? (ad.add j)=some u):=λad e w' h=>by
    rcases zh with⟨O,_⟩|⟨g,O,M,I,_⟩
    ·rw[O]at e;cases e
    ·rw[O]at e;cases e
     exact RH I M (aC Nd h)
   have qd:Hid (∀ad,J=some ad->∀w',aF Wd w'->∀j u,(aI Fx.cells (c.fl.drop k))[j]?=some u->w'.cell? (ad.add j)=some u):=λad e w' h j u S=>by
    rcases zh with⟨_,_,_,W,_⟩|⟨g,_,M,I,⟨_,W⟩|⟨zw,W⟩⟩
    ·rw[W]at e;cases e
    ·rw[W]at e;cases e
     exact QH I M (aC Nd h) j u S
    ·rw[List.drop_of_length_le (by omega)]at S;simp[aI]at S
   clear hB zh hO xy;go_wp2_with fail
   refine wpIn_wide.1 (gP (F:=Fence.wide) (n:=0) (by kernel_rfl) [some 41,some 42,some 43,some 44,some 45,some 46,some 47,some 48,some 49,some 50,some 51,some 52,some 53,some 54,some 55,some 56,some 57,some 58,some 59,some 60,some 61,some 62,some 63,some 64] (KF Wd A k c.fl y (.slice c.fa c.fl.length c.fc) (.slice c.fa k c.fc) (.slice J (c.fl.length-k) (c.fc-k)) (.slice (some ⟨bl,Z,none⟩) 4 zb) (.pointer (some ⟨bl,Z+1,none⟩)) (.slice (some ⟨g,oo,none⟩) 2 c2) (.pointer (some ⟨g,oo,none⟩)) (.pointer (some ⟨g,oo+1,none⟩))) (by kernel_rfl) ?h0 KF.ext ?step ?fin)
   case h0=>
    exact⟨λ_ _ _ h=>h.elim,λh=>h.elim,λh=>h.elim,λh=>h.elim,λh=>h.elim,λh=>h.elim,λh=>h.elim,λ_=>by rw[xp];exact br _ _⟩
   case step=>
    intro L ii o vs w' B r C z hK;have hi:ii<25:=(lgs.1 B).1;have m:=aG hK;clear hK
    match ii,hi with
    |0,_=>
     simp at B;subst B;have d:¬L 24:=λh=>r (z 24 _ h rfl (eP 0) (by simp) rfl);have l:=m.oQ.bw d;have Q:aF w' (w'.alloc (.cells #[] 74)):=aB (br _ _) _;have P:Hid _:=(m.oQ.zL d Q).add0 ⟨w'.heap.size,rfl,l.size,wnq w' _⟩;clear Q;simp only[aE,Act.put];gi_wp2;exact⟨_,by simp[aH],P.oQ⟩
    |1,_=>
     simp at B;subst B;have d:¬L 24:=λh=>r (z 24 _ h rfl (eP 1) (by simp) rfl);have l:=m.oQ.bw d;simp only[aE,Act.put];gi_wp2;exact⟨.pointer (some ⟨A,1,none⟩),by simp[aH],m.oQ.addc 1 rfl⟩
    |2,_=>
     simp at B;subst B;have d:¬L 24:=λh=>r (z 24 _ h rfl (eP 2) (by simp) rfl);have l:=m.oQ.bw d;have d1:=m.oQ.c 1 _ rfl (Zq C 1);have k2:=(l.cell (aA a2)).trans a2;simp only[aE,Act.put];rw[d1];gi_wp2;exact⟨.slice c.fa c.fl.length c.fc,by simp[aH,d1],m.oQ.addc 2 rfl⟩
    |3,_=>
     simp at B;subst B;have d:¬L 24:=λh=>r (z 24 _ h rfl (eP 3) (by simp) rfl);have l:=m.oQ.bw d;simp only[aE,Act.put];gi_wp2;exact⟨.int .i64 ((k:Nat):Int),by simp[aH],m.oQ.addc 3 rfl⟩
    |4,_=>
     simp at B;subst B;have d:¬L 24:=λh=>r (z 24 _ h rfl (eP 4) (by simp) rfl);have l:=m.oQ.bw d;have d2:=m.oQ.c 2 _ rfl (Zq C 2);have d3:=m.oQ.c 3 _ rfl (Zq C 3);have P:Hid _:=m.oQ.addc 4 (v:=.slice c.fa k c.fc) rfl
     rcases HA.oQ with⟨O,G,e2,-,rfl⟩|⟨g,O,G,-,-⟩
     ·have d2:vs 2=.slice none 0 0:=by rw[d2,O,G,e2];rfl
      have E0:Hid (c.fa=none/\c.fc=0):=⟨O,e2⟩;clear O G e2;simp only[aE,Act.put];rw[d2,d3];gi_wp2;exact⟨.slice c.fa 0 c.fc,by simp[aH,d2,d3,E0.out],P.oQ⟩
     ·have d2:vs 2=.slice (some ⟨g,0,none⟩) c.fl.length c.fc:=by rw[d2,O]
      have E0:Hid _:=O;clear O;simp only[aE,Act.put];rw[d2,d3];gi_wp2;exact⟨.slice c.fa k c.fc,by simp[aH,d2,d3,E0.out],P.oQ⟩
    |5,_=>
     simp at B;subst B;have d:¬L 24:=λh=>r (z 24 _ h rfl (eP 5) (by simp) rfl);have l:=m.oQ.bw d;have d4:=m.oQ.c 4 _ rfl (Zq C 4);obtain⟨p,d0,zc,xx⟩:=m.oQ.v0 (Zq C 0);have hp:=xx r;simp only[aE,Act.put,List.setIfInBounds_toArray,List.set_cons_succ,List.set_cons_zero];rw[d0,d4];refine lD w' rfl (.tmp 41) (.tmp 45) 27 rfl 74 jf _ 3 32 Tryz.underlying27 yv yz xa xb rfl (by decide) p rfl hp c.fa k c.fc (aI Fx.cells (c.fl.take k)) rfl HN.oQ (by rw[cG Fx.cells_length,List.length_take];congr 1;omega) (λad e j u S=>qj.oQ ad e w' l j u S) (iB nQ _) (by unfold maxLen;omega) (by omega) Wd.heap.size zc (λv' w2 N H=>?_);have P:Hid _:=(m.oQ.zL d H).add5 N;clear N H hp xx;gi_wp2;exact⟨_,by simp[aH,d0,d4],P.oQ⟩
    |6,_=>
     simp at B;subst B;have d:¬L 24:=λh=>r (z 24 _ h rfl (eP 6) (by simp) rfl);have l:=m.oQ.bw d;simp only[aE,Act.put];gi_wp2;exact⟨.slice (some ⟨bl,Z,none⟩) 4 zb,by simp[aH],m.oQ.addc 6 rfl⟩
    |7,_=>
     simp at B;subst B;have d:¬L 24:=λh=>r (z 24 _ h rfl (eP 7) (by simp) rfl);have l:=m.oQ.bw d;have d6:=m.oQ.c 6 _ rfl (Zq C 6);simp only[aE,Act.put];rw[d6];gi_wp2;exact⟨.pointer (some ⟨bl,Z+1,none⟩),by simp[aH,d6],m.oQ.addc 7 rfl⟩
    |8,_=>
     simp at B;subst B;have d:¬L 24:=λh=>r (z 24 _ h rfl (eP 8) (by simp) rfl);have l:=m.oQ.bw d;have d7:=m.oQ.c 7 _ rfl (Zq C 7);have ke1:=(l.cell (aA G)).trans G;simp only[aE,Act.put];rw[d7];gi_wp2;exact⟨.string y.n,by simp[aH,d7],m.oQ.addc 8 rfl⟩
    |9,_=>
     simp at B;subst B;have d:¬L 24:=λh=>r (z 24 _ h rfl (eP 9) (by simp) rfl);have l:=m.oQ.bw d;simp only[aE,Act.put];gi_wp2;exact⟨.slice (some ⟨g,oo,none⟩) 2 c2,by simp[aH],m.oQ.addc 9 rfl⟩
    |10,_=>
     simp at B;subst B;have d:¬L 24:=λh=>r (z 24 _ h rfl (eP 10) (by simp) rfl);have l:=m.oQ.bw d;have d9:=m.oQ.c 9 _ rfl (Zq C 9);simp only[aE,Act.put];rw[d9];gi_wp2;exact⟨.pointer (some ⟨g,oo,none⟩),by simp[aH,d9],m.oQ.addc 10 rfl⟩
    |11,_=>
     simp at B;subst B;have d:¬L 24:=λh=>r (z 24 _ h rfl (eP 11) (by simp) rfl);have l:=m.oQ.bw d;have K:=m.oQ.c 10 _ rfl (Zq C 10);have ki0:=(l.cell (aA i0)).trans i0;simp only[aE,Act.put];rw[K];gi_wp2;exact⟨.int .i64 y.x,by simp[aH,K],m.oQ.addc 11 rfl⟩
    |12,_=>
     simp at B;subst B;have d:¬L 24:=λh=>r (z 24 _ h rfl (eP 12) (by simp) rfl);have l:=m.oQ.bw d;simp only[aE,Act.put];gi_wp2;exact⟨.slice (some ⟨g,oo,none⟩) 2 c2,by simp[aH],m.oQ.addc 12 rfl⟩
    |13,_=>
     simp at B;subst B;have d:¬L 24:=λh=>r (z 24 _ h rfl (eP 13) (by simp) rfl);have l:=m.oQ.bw d;have U:=m.oQ.c 12 _ rfl (Zq C 12);simp only[aE,Act.put];rw[U];gi_wp2;exact⟨.pointer (some ⟨g,oo+1,none⟩),by simp[aH,U],m.oQ.addc 13 rfl⟩
    |14,_=>
     simp at B;subst B;have d:¬L 24:=λh=>r (z 24 _ h rfl (eP 14) (by simp) rfl);have l:=m.oQ.bw d;have xk:=m.oQ.c 13 _ rfl (Zq C 13);have ki1:=(l.cell (aA i1)).trans i1;simp only[aE,Act.put];rw[xk];gi_wp2;exact⟨.int .i64 y.y,by simp[aH,xk],m.oQ.addc 14 rfl⟩
    |15,_=>
     simp at B;subst B;have d:¬L 24:=λh=>r (z 24 _ h rfl (eP 15) (by simp) rfl);have l:=m.oQ.bw d;have d8:=m.oQ.c 8 _ rfl (Zq C 8);have T:=m.oQ.c 11 _ rfl (Zq C 11);have zn:=m.oQ.c 14 _ rfl (Zq C 14);simp only[aE,Act.put];rw[d8,T,zn];gi_wp2;exact⟨y.val,by simp[aH,d8,T,zn],m.oQ.addc 15 rfl⟩
    |16,_=>
     simp at B;subst B;have d:¬L 24:=λh=>r (z 24 _ h rfl (eP 16) (by simp) rfl);have l:=m.oQ.bw d;have d6:=m.oQ.c 15 _ rfl (Zq C 15);have Q:aF w' (w'.alloc (.cells #[.string y.n,.int .i64 y.x,.int .i64 y.y] 74)):=aB (br _ _) _;have P:Hid _:=(m.oQ.zL d Q).add7 ⟨w'.heap.size,rfl,wnq w' _⟩;clear Q;simp only[aE,Act.put];rw[d6];gi_wp2;exact⟨_,by simp[aH,d6],P.oQ⟩
    |17,_=>
     simp at B;subst B;have d:¬L 24:=λh=>r (z 24 _ h rfl (eP 17) (by simp) rfl);have l:=m.oQ.bw d;have h5:L 5:=Zq C 5;have zp:¬L 22:=λh=>r (z 22 _ h rfl (eD 17) (by simp) rfl);have ye:=m.oQ.v5 h5 r;obtain⟨V,d7,xn⟩:=m.oQ.v7 (Zq C 16);have hV:=xn r;obtain⟨u5,e5⟩:∃u,vs 5=u:=⟨_,rfl⟩;rw[e5]at ye;simp only[aE,Act.put,List.setIfInBounds_toArray,List.set_cons_succ,List.set_cons_zero];rw[d7,e5]
     refine wpListIn_append_own w' rfl (.tmp 46) (.tmp 57) 27 rfl Wd.heap.size 74 jf _ 3 32 Tryz.underlying27 yv yz xa xb rfl (by decide) u5 k (aI Fx.cells (c.fl.take k)) rfl ye ⟨V,0,none⟩ 1 1 y.cells rfl (by simp[Fx.cells]) (λj u S=>by
      rw[Addr.add_lit,Nat.zero_add]
      match j,S with
      |0,S=>simp[Fx.cells]at S;subst S;exact aJ hV rfl
      |1,S=>simp[Fx.cells]at S;subst S;exact aJ hV rfl
      |2,S=>simp[Fx.cells]at S;subst S;exact aJ hV rfl) (nQ y) (by unfold maxLen;omega) (by omega) l.size (λv' w2 N zv _=>?_)
     have H:aF Wd w2:=l.grown zv l.size (λq hq=>fB ye hq);have P:Hid _:=m.oQ.add8 h5 zp d N H;clear N zv ye hV xn;gi_wp2;exact⟨_,by simp[aH,d7,e5],P.oQ⟩
    |18,_=>
     simp at B;subst B;have d:¬L 24:=λh=>r (z 24 _ h rfl (eP 18) (by simp) rfl);have l:=m.oQ.bw d;simp only[aE,Act.put];gi_wp2;exact⟨.pointer (some ⟨A,1,none⟩),by simp[aH],m.oQ.addc 18 rfl⟩
    |19,_=>
     simp at B;subst B;have d:¬L 24:=λh=>r (z 24 _ h rfl (eP 19) (by simp) rfl);have l:=m.oQ.bw d;have d9:=m.oQ.c 18 _ rfl (Zq C 18);have k2:=(l.cell (aA a2)).trans a2;simp only[aE,Act.put];rw[d9];gi_wp2;exact⟨.slice c.fa c.fl.length c.fc,by simp[aH,d9],m.oQ.addc 19 rfl⟩
    |20,_=>
     simp at B;subst B;have d:¬L 24:=λh=>r (z 24 _ h rfl (eP 20) (by simp) rfl);have l:=m.oQ.bw d;simp only[aE,Act.put];gi_wp2;exact⟨.int .i64 ((k:Nat):Int),by simp[aH],m.oQ.addc 20 rfl⟩
    |21,_=>
     simp at B;subst B;have d:¬L 24:=λh=>r (z 24 _ h rfl (eP 21) (by simp) rfl);have l:=m.oQ.bw d;have K:=m.oQ.c 19 _ rfl (Zq C 19);have T:=m.oQ.c 20 _ rfl (Zq C 20);have P:Hid _:=m.oQ.addc 21 (v:=.slice J (c.fl.length-k) (c.fc-k)) rfl
     rcases HA.oQ with⟨O,G,e2,W,rfl⟩|⟨g,O,G,-,h3⟩
     ·have K:vs 19=.slice none 0 0:=by rw[K,O,G,e2];rfl
      have E0:Hid (c.fl=[]/\c.fc=0/\J=none):=⟨G,e2,W⟩;clear O G e2 W;simp only[aE,Act.put];rw[K,T];gi_wp2;exact⟨.slice J (c.fl.length-0) (c.fc-0),by simp[aH,K,T,E0.out],P.oQ⟩
     ·have K:vs 19=.slice (some ⟨g,0,none⟩) c.fl.length c.fc:=by rw[K,O]
      clear O
      rcases h3 with⟨zw,W⟩|⟨zw,W⟩
      ·have E3:Hid _:=W
       clear W;simp only[aE,Act.put];rw[K,T];gi_wp2;exact⟨.slice J (c.fl.length-k) (c.fc-k),by simp[aH,K,T,E3.out],P.oQ⟩
      ·have xu:c.fc-k=0:=by omega
       have E3:Hid _:=W;clear W;simp only[aE,Act.put];rw[K,T];gi_wp2;exact⟨.slice J (c.fl.length-k) (c.fc-k),by simp[aH,K,T,E3.out,xu];omega,by have h:=P.oQ;have e:c.fc=k:=(by omega);simp only[e,Nat.sub_self]at h ⊢;exact h⟩
    |22,_=>
     simp at B;subst B;have d:¬L 24:=λh=>r (z 24 _ h rfl (eP 22) (by simp) rfl);have l:=m.oQ.bw d;have U:=m.oQ.c 21 _ rfl (Zq C 21);have h8:L 17:=Zq C 17;have h5:L 5:=z 17 _ h8 rfl (eD 5) (by simp) rfl;have Y:=m.oQ.v8 h8 r;obtain⟨u8,e8⟩:∃u,vs 17=u:=⟨_,rfl⟩
     cases J with
     |none=>
      obtain⟨zk,xs,yc⟩:=qh.oQ rfl
      obtain⟨g8,R,e9,hc8⟩:∃g8 R,vs 17=.slice (some ⟨g8,0,none⟩) 1 R/\1<=R:=by
       rw[yc]at Y;obtain⟨_,⟨_,e⟩|⟨g8,R,_,e,_,_,qn,_⟩⟩:=Y
       ·omega
       ·exact⟨g8,R,e,qn⟩
      have P:Hid _:=m.oQ.add13 (v:=vs 17) h5 h8 d (by rw[zk,yc]at Y ⊢;simpa[aI]using Y) l;have U:vs 21=.slice none 0 0:=by rw[U,zk,xs,yc];rfl
      clear Y zk xs yc;simp only[aE,Act.put];rw[U,e9];gi_wp2;exact⟨vs 17,by simp[aH,U,e9],P.oQ⟩
     |some ad=>
      rw[e8]at Y;simp only[aE,Act.put,List.setIfInBounds_toArray,List.set_cons_succ,List.set_cons_zero];rw[U,e8];refine wpListIn_append_own w' rfl (.tmp 58) (.tmp 62) 27 rfl Wd.heap.size 74 jf _ 3 32 Tryz.underlying27 yv yz xa xb rfl (by decide) u8 (k+1) (aI Fx.cells (c.fl.take k)++y.cells) rfl Y ad (c.fl.length-k) (c.fc-k) (aI Fx.cells (c.fl.drop k)) rfl (by rw[cG Fx.cells_length,List.length_drop]) (λj u S=>qd.oQ ad rfl w' l j u S) (iB nQ _) (by unfold maxLen;omega) (by omega) l.size (λv' w2 N zv _=>?_);have H:aF Wd w2:=l.grown zv l.size (λq hq=>fB Y hq);have zx:w2.ownsRow Wd.heap.size 74 3 v' (c.fl.length+1) (aI Fx.cells (c.fl.take k)++y.cells++aI Fx.cells (c.fl.drop k)):=by rw[show c.fl.length+1=k+1+(c.fl.length-k)by omega];exact N
      have P:Hid _:=m.oQ.add13 h5 h8 d zx H;clear N zx zv Y;gi_wp2;exact⟨_,by simp[aH,U,e8],P.oQ⟩
    |23,_=>
     simp at B;subst B;have d:¬L 24:=λh=>r (z 24 _ h rfl (eD 23) (by simp) rfl);have l:=m.oQ.bw d;simp only[aE,Act.put];gi_wp2;exact⟨.pointer (some ⟨A,1,none⟩),by simp[aH],m.oQ.addc 23 rfl⟩
    |24,_=>
     simp at B;subst B;have zn:=m.oQ.c 23 _ rfl (Zq C 23);have l:=m.oQ.bw r;have zp:L 22:=Zq C 22;have h8:L 17:=z 22 _ zp rfl (eD 17) (by simp) rfl;have h5:L 5:=z 17 _ h8 rfl (eD 5) (by simp) rfl;have yj:=m.oQ.v13 zp r
     obtain⟨a8,c8,zo⟩:∃a cq,vs 22=.slice a (c.fl.length+1) cq:=by
      obtain⟨_,⟨_,e⟩|⟨g8,R,_,e,_⟩⟩:=yj
      ·omega
      ·exact⟨_,_,e⟩
     have k2:=(l.cell (aA a2)).trans a2;have kf:∀i,w'.frozen? ⟨A,i,none⟩=false:=λi=>by simp[World.frozen?,bJ zg.oQ l]
     have P:Hid _:=m.oQ.add15 (v:=undef) h5 h8 zp r;rw[zo]at P;simp only[aE,Act.put];rw[zn,zo];clear yj;gi_wp2_with fail
     exact⟨undef,by simp[aH,zn,zo],by have h:=P.oQ;simpa using h⟩
    |q+25,h=>exact absurd h (by omega)
   case fin=>
    intro L vs w' xl hK;obtain⟨w9,zt,yx,yy⟩:=hK.w15 (xl 24 (by decide));have yu:=lI yx
    have zr:bQ 74 3 Fx.cells w9 Wd.heap.size (vs 22) (c.fl.take k++y::c.fl.drop k):=iY Fx.cells_length (by
     rw[show(c.fl.take k++y::c.fl.drop k).length=c.fl.length+1 by simp;omega];have e:aI Fx.cells (c.fl.take k++y::c.fl.drop k)=aI Fx.cells (c.fl.take k)++y.cells++aI Fx.cells (c.fl.drop k):=by simp[aI]
     rw[e];exact yx)
    rw[←ym.oQ]at zr;obtain⟨a',c',zo⟩:=zr.slice;rw[zo]at zr yy yu;rw[yy];clear yy yx xl hK;simp only[aE,Act.put];generalize vs=vs;have A9:=aO (bJ zg.oQ zt) 1 (.slice a' (gU c.fl y).length c');have bA:aT (λq=>q=A) w9 (w9.setCell ⟨A,1,none⟩ (.slice a' (gU c.fl y).length c')):=(aT.refl (λq=>q=A) w9).set (g:=A) rfl _ _;have yq:=aC Nd zt
    have ze:eF w1.heap.size (w9.setCell ⟨A,1,none⟩ (.slice a' (gU c.fl y).length c')) ⟨c.now,a',gU c.fl y,c',c.ha,c.hl,c.hc⟩:=by
     have h1:=(xd.oQ.zL yq).butT bA (bJ zg.oQ zt) (by decide) (by decide) (by decide)
     have h2:=(zr.weak (base':=w1.heap.size) (by have:=Nd.size;omega)).butRow bA (λq n f _ hr e=>by
      have e':q=A:=e;subst e';obtain⟨cs,zj,_⟩:=hr;rw[bJ zg.oQ zt]at zj
      simp[Bk.obj]at zj)
     exact⟨h2,h1.h,h1.t,yu⟩
    have ya:aF w2 (w9.setCell ⟨A,1,none⟩ (.slice a' (gU c.fl y).length c')):=((Below.trans za.oQ (yq.mono (by omega))).setCell (p:=⟨A,1,none⟩) (by show w2.heap.size<=A;omega) _);obtain⟨Wf,xq⟩:=cK (w9.setCell ⟨A,1,none⟩ (.slice a' (gU c.fl y).length c'));rw[xq]at A9 ze ya ⊢;have xm:=hS.zL ya;have yh:KE (gH s.b y).now (gH s.b y).fl (gH s.b y).hl ⟨c.now,a',gU c.fl y,c',c.ha,c.hl,c.hc⟩:=⟨yl.oQ.now,by show gU c.fl y=gU s.b.fl y;rw[yl.oQ.fl],yl.oQ.lk⟩;have X:dZ (λk=>k=D) Wf (gH s.b y) ⟨c.now,a',gU c.fl y,c',c.ha,c.hl,c.hc⟩:=ze.at (λk e=>by rw[e];exact qm) yh;have yr:aN (⟨c.now,a',gU c.fl y,c',c.ha,c.hl,c.hc⟩:Bk)=aN (gH s.b y):=X.book;have yi:(gU c.fl y).length<=1048576:=by rw[ym.oQ];simp;omega
    have E:iW Wf ⟨c.now,a',gU c.fl y,c',c.ha,c.hl,c.hc⟩:=⟨X.inn.f,yi,X.f1,X.f2,λf hf=>by
     rw[show(⟨c.now,a',gU c.fl y,c',c.ha,c.hl,c.hc⟩:Bk).fl=gU c.fl y from rfl,ym.oQ]at hf
     rcases lma.1 hf with h|h
     ·exact xf.oQ f (List.mem_of_mem_take h)
     ·rcases List.mem_cons.1 h with rfl|h
      ·exact qk.oQ
      ·exact xf.oQ f (List.mem_of_mem_drop h),X.inn.h,qf.oQ,λx hx=>⟨X.inn.i x hx,qe.oQ x hx⟩⟩
    have O:Wf.cell? ⟨A,0,none⟩=some (.int .i64 c.now):=aJ A9 rfl;have yo:Wf.cell? ⟨A,1,none⟩=some (.slice a' (gU c.fl y).length c'):=aJ A9 rfl;have e2:Wf.cell? ⟨A,2,none⟩=some (.slice c.ha c.hl.length c.hc):=aJ A9 rfl;obtain⟨cc,zi⟩:=bP (⟨c.now,a',gU c.fl y,c',c.ha,c.hl,c.hc⟩:Bk);rw[←zi]at ze X yr E
    replace O:Wf.cell? ⟨A,0,none⟩=some (.int .i64 cc.now):=by rw[zi];exact O
    replace yo:Wf.cell? ⟨A,1,none⟩=some (.slice cc.fa cc.fl.length cc.fc):=by rw[zi];exact yo
    replace e2:Wf.cell? ⟨A,2,none⟩=some (.slice cc.ha cc.hl.length cc.hc):=by rw[zi];exact e2
    have yk:Hid (Wf.heap[A]?=some cc.obj):=by rw[Hid,zi];exact A9
    clear zi yh A9 bA zr ze zt xq yq yu yi;go_wp2_with fail
    refine(sK E _ yr).mono ?_;rintro e w3 ⟨rfl,zs⟩;have zq:=xm.zL zs;have yg:=X.zL zs;have xh:=aG (aC (xi.oQ.trans (ya.mono xi.oQ.size)) zs);have A3:=bJ yk.oQ zs;clear xm X E zs ya O yo e2 yr
    cases hq:aN (gH s.b y)with
    |false=>
     have HR:Hid (fT s ws.tail=(s,WT)):=by rw[Hid,xe.oQ,hq];rfl
     clear hq A3 yk;go_wp2
     go_ret;exact⟨⟨_,_,_,by rw[HR.oQ];exact zq⟩,by rw[HR.oQ];rfl,aT.below xh.oQ⟩
    |true=>
     have HR:Hid (fT s ws.tail=(⟨gH s.b y,s.t⟩,SE)):=by rw[Hid,xe.oQ,hq];rfl
     have qi:=aG (zq.put yg);have qc:=aG ((aT.below xh.oQ).trans (dC w3 D cc));obtain⟨y0,y1,y2,y3⟩:=zq.c;have yf:=zq.fz;obtain⟨u0,u1,u2⟩:=aM A3;clear hq A3 yk zq yg;go_wp2
     go_ret;exact⟨⟨_,_,_,by rw[HR.oQ];exact qi.oQ⟩,by rw[HR.oQ];rfl,qc.oQ⟩
end Go.Proofs.YtcdbcliaepcpfaaGreatDoor
namespace Go.Proofs.YtcdbcliaepcpfaaGreatDoor
set_option maxRecDepth 100000
set_option maxHeartbeats 8000000
open Go.RowKit Go.BigFrame
theorem SO (D:Nat) (w:World) (s:St) (b:Bk) (ta:Option Addr) (F A:Nat) (j:nU D w s b ta F) (z:iP A s) (_hkk:A<=1000) (n:ByteArray) (a:List ByteArray) (l f c:Nat) (q:Xs 1 dS w (some ⟨l,f,none⟩) (n::a)) (hcap:a.length+1<=c) (hlen:a.length+1<=1048570) (hsz:∀x∈n::a,x.size<=1048575) (E:n.toList=tZ):
 aY 7 #[.pointer (some ⟨D,0,none⟩),.slice (some ⟨l,f,none⟩) (a.length+1) c] w λe w'=>OP D w (aX s (n::a)) e w':=by
 have p:=gO q 0 n rfl;rw[Nat.add_zero]at p;have o:Xs 1 dS w (some ⟨l,f+1,none⟩) a:=i7 q 1 [n] _ [] (by simp) rfl;go_enter Tryz.func7,Tryz.ntmps7;go_upto_region 1 with fail;go_cut [5,6] (λJ K G=>K=.bool (jG a)/\Hid (jG a=true->∃B H,J=.slice B (aS a).length H/\Xs 1 eW G B (aS a))/\aF w G)
 case first=>
  by_cases y:c=1
  ·have ha:a=[]:=List.eq_nil_of_length_eq_zero (by omega);subst ha;subst y;go_wp2_with fail;refine(bW [] (some ⟨l,f,none⟩) 0 w (.inl rfl) (by simp)).mono ?_;rintro e L ⟨⟨I,rfl,d⟩,h⟩;have g:=aG d;clear d;go_wp2;go_meet;exact⟨rfl,g,h⟩
  ·have hc2:1<c:=by omega
   go_wp2_with fail;refine(bW a (some ⟨l,f+1,none⟩) (c-1) w o (by omega)).mono ?_;rintro e L ⟨⟨I,rfl,d⟩,h⟩;have g:=aG d;clear d;go_wp2;go_meet;exact⟨rfl,g,h⟩
 case rest=>
  obtain⟨rfl,HV,m⟩:=hcut;replace q:=q.zL m;replace p:=(m.cell (aA p)).trans p;replace j:=j.zL m;have t:=aG m;clear o m;by_cases C:a.length=0
  ·have k:Hid (aX s (n::a)=(s,qD s.b)):=by
    rw[List.eq_nil_of_length_eq_zero C,Hid,aX,E];rfl
   rw[C];go_wp2_with fail;refine(QO D wc s b ta F A j z).mono ?_;rintro e w2 ⟨rfl,i⟩;have v:=j.zL i;have u:=aG (aC t.oQ i);clear i j t;go_wp2;go_ret;exact⟨⟨_,_,_,by rw[k.oQ];exact v⟩,by rw[k.oQ];rfl,aT.below u.oQ⟩
  ·have k:Hid (aX s (n::a)=(s,cX)):=by
    obtain⟨x,r,rfl⟩:=List.exists_cons_of_length_pos (by omega:0<a.length);rw[Hid,aX,E];rfl
   have hl':((a.length:Int)+1==1)=false:=by rw[beq_eq_false_iff_ne];omega
   go_wp2;go_ret;exact⟨⟨_,_,_,by rw[k.oQ];exact j⟩,by rw[k.oQ];rfl,aT.below t.oQ⟩
theorem s9 {s:St}{a:List ByteArray}(h:¬a.length=3):fT s a=(s,cX):=by
 unfold fT;split;·simp at h
 ·rfl
theorem RK (D:Nat) (w:World) (s:St) (b:Bk) (ta:Option Addr) (I F:Nat) (l:nU D w s b ta I) (C:iP F s) (_hkk:F<=1000) (n:ByteArray) (a:List ByteArray) (i d c:Nat) (o:Xs 1 dS w (some ⟨i,d,none⟩) (n::a)) (r:a.length+1<=c) (hlen:a.length+1<=1048570) (E:∀x∈n::a,x.size<=1048575) (H:n.toList=pA):
 aY 7 #[.pointer (some ⟨D,0,none⟩),.slice (some ⟨i,d,none⟩) (a.length+1) c] w λe w'=>OP D w (aX s (n::a)) e w':=by
 have t:=gO o 0 n rfl;rw[Nat.add_zero]at t;have p:Xs 1 dS w (some ⟨i,d+1,none⟩) a:=i7 o 1 [n] _ [] (by simp) rfl;go_enter Tryz.func7,Tryz.ntmps7;go_upto_region 1 with fail;go_cut [5,6] (λN O J=>O=.bool (jG a)/\Hid (jG a=true->∃G L,N=.slice G (aS a).length L/\Xs 1 eW J G (aS a))/\aF w J)
 case first=>
  by_cases A:c=1
  ·have ha:a=[]:=List.eq_nil_of_length_eq_zero (by omega);subst ha;subst A;go_wp2_with fail;refine(bW [] (some ⟨i,d,none⟩) 0 w (.inl rfl) (by simp)).mono ?_;rintro e P ⟨⟨M,rfl,f⟩,h⟩;have g:=aG f;clear f;go_wp2;go_meet;exact⟨rfl,g,h⟩
  ·have hc2:1<c:=by omega
   go_wp2_with fail;refine(bW a (some ⟨i,d+1,none⟩) (c-1) w p (by omega)).mono ?_;rintro e P ⟨⟨M,rfl,f⟩,h⟩;have g:=aG f;clear f;go_wp2;go_meet;exact⟨rfl,g,h⟩
 case rest=>
  obtain⟨rfl,HV,k⟩:=hcut;replace o:=o.zL k;replace t:=(k.cell (aA t)).trans t;replace l:=l.zL k;have v:=aG k;clear p k;by_cases u:a.length=3
  ·have j:Hid (aX s (n::a)=fT s a):=by rw[Hid,aX,H];rfl
   have B:((a.length:Int)+1==4)=true:=by rw[beq_iff_eq];omega
   have K:=aG u;clear u;go_wp2_with fail;refine(MX D wc s b ta I F l C (n::a) i d c o (by simp[K.oQ]) (by simpa using r) E).mono ?_;rintro e w2 ⟨⟨b2,ta2,tc2,m⟩,rfl,q⟩;have y:=aG ((aT.below v.oQ).trans q);have z:=aG m;clear q l v m;go_wp2;go_ret;exact⟨⟨_,_,_,by rw[j.oQ];exact z.oQ⟩,by rw[j.oQ];rfl,y.oQ⟩
  ·have j:Hid (aX s (n::a)=(s,cX)):=by rw[Hid,←s9 (s:=s) u,aX,H];rfl
   have B:((a.length:Int)+1==4)=false:=by rw[beq_eq_false_iff_ne];omega
   clear u;go_wp2;go_ret;exact⟨⟨_,_,_,by rw[j.oQ];exact l⟩,by rw[j.oQ];rfl,aT.below v.oQ⟩
theorem vX {s:St}{a:List ByteArray}(h:¬8<=a.length):jW s a=(s,cX):=by
 unfold jW;split;·simp at h
 ·rfl
theorem TD (D:Nat) (w:World) (s:St) (b:Bk) (ta:Option Addr) (J G:Nat) (l:nU D w s b ta J) (E:iP G s) (_hkk:G<=1000) (n:ByteArray) (a:List ByteArray) (i d c:Nat) (o:Xs 1 dS w (some ⟨i,d,none⟩) (n::a)) (r:a.length+1<=c) (t:a.length+1<=1048570) (F:∀x∈n::a,x.size<=1048575) (I:n.toList=vE):
 aY 7 #[.pointer (some ⟨D,0,none⟩),.slice (some ⟨i,d,none⟩) (a.length+1) c] w λe w'=>OP D w (aX s (n::a)) e w':=by
 have u:=gO o 0 n rfl;rw[Nat.add_zero]at u;have p:Xs 1 dS w (some ⟨i,d+1,none⟩) a:=i7 o 1 [n] _ [] (by simp) rfl;go_enter Tryz.func7,Tryz.ntmps7;go_upto_region 1 with fail;go_cut [5,6] (λO P K=>P=.bool (jG a)/\Hid (jG a=true->∃H M,O=.slice H (aS a).length M/\Xs 1 eW K H (aS a))/\aF w K)
 case first=>
  by_cases B:c=1
  ·have ha:a=[]:=List.eq_nil_of_length_eq_zero (by omega);subst ha;subst B;go_wp2_with fail;refine(bW [] (some ⟨i,d,none⟩) 0 w (.inl rfl) (by simp)).mono ?_;rintro e Q ⟨⟨N,rfl,f⟩,h⟩;have g:=aG f;clear f;go_wp2;go_meet;exact⟨rfl,g,h⟩
  ·have hc2:1<c:=by omega
   go_wp2_with fail;refine(bW a (some ⟨i,d+1,none⟩) (c-1) w p (by omega)).mono ?_;rintro e Q ⟨⟨N,rfl,f⟩,h⟩;have g:=aG f;clear f;go_wp2;go_meet;exact⟨rfl,g,h⟩
 case rest=>
  obtain⟨rfl,HV,k⟩:=hcut;replace o:=o.zL k;replace u:=(k.cell (aA u)).trans u;replace l:=l.zL k;have y:=aG k;clear p k;by_cases v:8<=a.length
  ·have j:Hid (aX s (n::a)=jW s a):=by rw[Hid,aX,I];rfl
   have C:decide ((8:Int)<(a.length:Int)+1)=true:=by rw[dte];omega
   have L:=aG v;clear v;go_wp2_with fail;refine(PD D wc s b ta J G l E (n::a) i d c o (by have:=L.oQ;simp;omega) (by simpa using r) (by simpa using t) F).mono ?_;rintro e w2 ⟨⟨b2,ta2,tc2,m⟩,rfl,q⟩;have z:=aG ((aT.below y.oQ).trans q);have A:=aG m;clear q l y m;go_wp2;go_ret;exact⟨⟨_,_,_,by rw[j.oQ];exact A.oQ⟩,by rw[j.oQ];rfl,z.oQ⟩
  ·have j:Hid (aX s (n::a)=(s,cX)):=by rw[Hid,←vX (s:=s) v,aX,I];rfl
   have C:decide ((8:Int)<(a.length:Int)+1)=false:=by rw[decide_eq_false_iff_not];omega
   clear v;go_wp2;go_ret;exact⟨⟨_,_,_,by rw[j.oQ];exact l⟩,by rw[j.oQ];rfl,aT.below y.oQ⟩
theorem SY (D:Nat) (w:World) (s:St) (b:Bk) (ta:Option Addr) (J F:Nat) (A:nU D w s b ta J) (_hok:iP F s) (_hkk:F<=1000) (n:ByteArray) (a:List ByteArray) (t p k:Nat) (z:Xs 1 dS w (some ⟨t,p,none⟩) (n::a)) (hcap:a.length+1<=k) (hlen:a.length+1<=1048570) (_hsz:∀x∈n::a,x.size<=1048575) (d:¬n.toList=pA) (j:¬n.toList=vE) (l:¬n.toList=FI) (c:¬n.toList=oI) (i:¬n.toList=uN) (m:¬n.toList=FK) (h:¬n.toList=tW) (g:¬n.toList=tZ) (f:¬n.toList=uR):
 aY 7 #[.pointer (some ⟨D,0,none⟩),.slice (some ⟨t,p,none⟩) (a.length+1) k] w λe w'=>OP D w (aX s (n::a)) e w':=by
 have y:=gO z 0 n rfl;rw[Nat.add_zero]at y;have v:Xs 1 dS w (some ⟨t,p+1,none⟩) a:=i7 z 1 [n] _ [] (by simp) rfl;go_enter Tryz.func7,Tryz.ntmps7;go_upto_region 1 with fail;go_cut [5,6] (λL M G=>M=.bool (jG a)/\Hid (jG a=true->∃E I,L=.slice E (aS a).length I/\Xs 1 eW G E (aS a))/\aF w G)
 case first=>
  by_cases B:k=1
  ·have ha:a=[]:=List.eq_nil_of_length_eq_zero (by omega);subst ha;subst B;go_wp2_with fail;refine(bW [] (some ⟨t,p,none⟩) 0 w (.inl rfl) (by simp)).mono ?_;rintro e N ⟨⟨K,rfl,o⟩,r⟩;have q:=aG o;clear o;go_wp2;go_meet;exact⟨rfl,q,r⟩
  ·have hc2:1<k:=by omega
   go_wp2_with fail;refine(bW a (some ⟨t,p+1,none⟩) (k-1) w v (by omega)).mono ?_;rintro e N ⟨⟨K,rfl,o⟩,r⟩;have q:=aG o;clear o;go_wp2;go_meet;exact⟨rfl,q,r⟩
 case rest=>
  obtain⟨rfl,HV,u⟩:=hcut;replace z:=z.zL u;replace y:=(u.cell (aA y)).trans y;replace A:=A.zL u;have H:=aG u;clear v u
  have C:Hid (aX s (n::a)=(s,cX)):=by
   rw[Hid,aX,if_neg d,if_neg j,if_neg l,if_neg c,if_neg i,if_neg m,if_neg h,if_neg g,if_neg f]
  have nField:(n.toList==[102,105,101,108,100])=false:=by rw[beq_eq_false_iff_ne];exact d
  have nWish:(n.toList==[119,105,115,104])=false:=by rw[beq_eq_false_iff_ne];exact j
  have nBox:(n.toList==[98,111,120])=false:=by rw[beq_eq_false_iff_ne];exact l
  have nAmend:(n.toList==[97,109,101,110,100])=false:=by rw[beq_eq_false_iff_ne];exact c
  have nTook:(n.toList==[116,111,111,107])=false:=by rw[beq_eq_false_iff_ne];exact i
  have nRef:(n.toList==[114,101,102,117,115,101,100])=false:=by rw[beq_eq_false_iff_ne];exact m
  have nTick:(n.toList==[116,105,99,107])=false:=by rw[beq_eq_false_iff_ne];exact h
  have nHeld:(n.toList==[104,101,108,100])=false:=by rw[beq_eq_false_iff_ne];exact g
  have nBars:(n.toList==[98,97,114,115])=false:=by rw[beq_eq_false_iff_ne];exact f
  clear d j l c i m h g f;go_wp2;go_ret;exact⟨⟨_,_,_,by rw[C.oQ];exact A⟩,by rw[C.oQ];rfl,aT.below H.oQ⟩
def IX (D:Nat)(b:Bk)(vw:Value)(bl off:Nat)(nm:ByteArray)(tv:Value)(s':Bk)(c:Int)(j:Nat)(v:Value)(w:World):Prop:=
 match j with
 |0|1|2|3=>v=.pointer (some ⟨D,0,none⟩)
 |4=>v=b.val
 |5=>v=vw
 |6=>v=.pointer (some ⟨bl,off+1,none⟩)
 |7=>v=.string nm
 |8=>v=tv
 |9=>∃b':Bk,v=.tuple #[b'.val,.int .i64 c]/\dZ (λk=>k=D) w s' b'
 |10=>∃b':Bk,v=b'.val/\dZ (λk=>k=D) w s' b'
 |11=>v=.int .i64 c
 |_=>True
theorem IX.zL {D:Nat}{b:Bk}{h:Value}{e a:Nat}{nm:ByteArray}{g:Value}{f:Bk}{c:Int}(j:Nat)(v:Value)(w w':World)(d:IX D b h e a nm g f c j v w)(l:aF w w'):IX D b h e a nm g f c j v w':=by
 unfold IX at*;split at d
 all_goals first
  |exact d
  |(obtain⟨b',i,k⟩:=d;exact⟨b',i,k.zL l⟩)
theorem QT (D:Nat) (w:World) (s:St) (b:Bk) (ta:Option Addr) (tc kk:Nat) (H:nU D w s b ta tc) (zb:iP kk s) (hkk:kk<=1000) (n:ByteArray) (a:List ByteArray) (y d f:Nat) (I:Xs 1 dS w (some ⟨y,d,none⟩) (n::a)) (hcap:a.length+1<=f) (hlen:a.length+1<=1048570) (_hsz:∀x∈n::a,x.size<=1048575) (hn:n.toList=oI):
 aY 7 #[.pointer (some ⟨D,0,none⟩),.slice (some ⟨y,d,none⟩) (a.length+1) f] w λe w'=>OP D w (aX s (n::a)) e w':=by
 have c0:=gO I 0 n rfl;rw[Nat.add_zero]at c0;have Y:Xs 1 dS w (some ⟨y,d+1,none⟩) a:=i7 I 1 [n] _ [] (by simp) rfl;go_enter Tryz.func7,Tryz.ntmps7;go_upto_region 1 with fail;go_cut [5,6] (λv5 v6 wx=>v6=.bool (jG a)/\Hid (jG a=true->∃a' c',v5=.slice a' (aS a).length c'/\Xs 1 eW wx a' (aS a))/\aF w wx)
 case first=>
  by_cases B:f=1
  ·have ha:a=[]:=List.eq_nil_of_length_eq_zero (by omega);subst ha;subst B;go_wp2_with fail;refine(bW [] (some ⟨y,d,none⟩) 0 w (.inl rfl) (by simp)).mono ?_;rintro e w1 ⟨⟨v1,rfl,r⟩,J⟩;have F:=aG r;clear r;go_wp2;go_meet;exact⟨rfl,F,J⟩
  ·have hc2:1<f:=by omega
   go_wp2_with fail;refine(bW a (some ⟨y,d+1,none⟩) (f-1) w Y (by omega)).mono ?_;rintro e w1 ⟨⟨v1,rfl,r⟩,J⟩;have F:=aG r;clear r;go_wp2;go_meet;exact⟨rfl,F,J⟩
 case rest=>
  obtain⟨rfl,HV,T⟩:=hcut;replace I:=I.zL T;replace c0:=(T.cell (aA c0)).trans c0;replace H:=H.zL T;have HN:=aG T;clear Y T;by_cases hl:a.length=1
  ·obtain⟨nm,rfl⟩:∃nm,a=[nm]:=List.length_eq_one_iff.1 hl;have G:=gO I 1 nm rfl;have HS0:Hid _:=I;clear I hl HV;obtain⟨za,B⟩:=BT s.b nm s.t;have O:Hid (aX s [n,nm]=(⟨dM s.b s.b.now (fX s.b nm s.t),[]⟩,iK (dX s.b nm s.t))):=by rw[Hid,aX,hn];rfl
   obtain⟨c,C⟩:=cK (dX s.b nm s.t);have N:Hid (aX s [n,nm]=(⟨dM s.b s.b.now (fX s.b nm s.t),[]⟩,iK c)):=by rw[←C];exact O.oQ
   rw[C]at za B;have zd:=aG C;clear C O;have m:aF wc (wc.alloc (.cells #[] 56)):=aB (br _ _) _;have i:=H.zL m;obtain⟨K,W⟩:=cK (wc.alloc (.cells #[] 56));rw[W]at i m;obtain⟨q0,q1,q2,q3⟩:=H.c;obtain⟨y0,y1,y2,y3⟩:=i.c;have yf:=i.fz;have l:nU D (K.setCell ⟨D,3,none⟩ (.slice (some ⟨wc.heap.size,0,none⟩) 0 0)) ⟨s.b,[]⟩ b (some ⟨wc.heap.size,0,none⟩) 0:=i.hand (t':=[]) (λ_ _=>.inl rfl);have A:aT (λk=>k=D) K (K.setCell ⟨D,3,none⟩ (.slice (some ⟨wc.heap.size,0,none⟩) 0 0)):=(aT.refl (λk=>k=D) K).set (g:=D) rfl _ _;have P:Hid (jJ (K.setCell ⟨D,3,none⟩ (.slice (some ⟨wc.heap.size,0,none⟩) 0 0)) ta s.t):=i.t _ A;have M:=aG (((aT.below HN.oQ).trans (aT.below m)).trans A);have S:y≠D:=H.ne G;have Q:=(m.cell (aA G)).trans G;replace G:=A.cell (p:=⟨y,d+1,none⟩) S Q;clear i m A;go_upto_region 12 with fail;obtain⟨W1,X⟩:=cK (K.setCell ⟨D,3,none⟩ (.slice (some ⟨wc.heap.size,0,none⟩) 0 0));rw[X]at l P M G ⊢;clear X W y0 y1 y2 y3 yf q0 q1 q2 q3 H S Q;refine pG 12 [some 100,some 101,some 102,some 103,some 104,some 105,some 106,some 107,some 108,some 109,some 110,some 111] (IX D b (.slice (some ⟨y,d,none⟩) 2 f) y d nm (.slice ta s.t.length tc) (dM s.b s.b.now (fX s.b nm s.t)) c) IX.zL ?step ?fin
   case step=>
    intro ii o vs w' zg v z u;obtain⟨z0z,z1z,z2z,z3z⟩:=(l.zL z).c;have z4z:=(z.cell (aA G)).trans G;match ii,zg with
    |2,_|3,_|4,_|6,_|7,_=>
     simp at v;subst v;simp[Region.binds,IX]at u;simp only[aE,Act.put,u];gi_wp2;exact⟨_,by simp[aH,u],rfl,br _ _⟩
    |0,_|1,_|5,_|8,_=>
     simp at v;subst v;simp only[aE,Act.put];gi_wp2;exact⟨_,by simp[aH],rfl,br _ _⟩
    |9,_=>
     simp at v;subst v;simp[Region.binds,IX]at u;simp only[aE,Act.put,u];gi_wp2_with fail;refine⟨trivial,rfl,?_⟩;refine(cw.2 (L8 (S':=λk=>k=D) (l.zL z).b zb.b nm s.t ta tc (P.oQ.zL z) (by have:=zb.t;omega) (λk e=>by rw[e];exact gT (l.zL z).o))).mono ?_;rintro e w5 ⟨⟨b',rfl,j⟩,zf⟩;have E:=aG j;clear j;rw[zd.oQ];gi_wp2;exact⟨_,by simp[aH,u],⟨b',rfl,E.oQ⟩,zf⟩
    |10,_=>
     simp at v;subst v;obtain⟨b',R,j⟩:=Zq u 9;have E:=aG j;clear u j;simp only[aE,Act.put,R];gi_wp2;exact⟨_,by simp[aH,R],⟨b',rfl,E.oQ⟩,br _ _⟩
    |11,_=>
     simp at v;subst v;obtain⟨b',R,j⟩:=Zq u 9;have E:=aG j;clear u j;simp only[aE,Act.put,R];gi_wp2;exact⟨_,by simp[aH,R],rfl,br _ _⟩
    |q+12,h=>exact absurd h (by omega)
   case fin=>
    intro vs w8 z hp;have e0:vs 0=.pointer (some ⟨D,0,none⟩):=hp 0 (by decide);obtain⟨b',eb,j⟩:=hp 10 (by decide);have ec:vs 11=.int .i64 c:=hp 11 (by decide);have U:=l.zL z;have L:=aG (M.oQ.trans (aT.below z));have E:=aG j;clear hp z j;simp only[lds,List.drop_zero,aE,Act.put];rw[e0,eb,ec];clear e0 eb ec;generalize vs=vs;gi_wp2_with fail;refine⟨trivial,rfl,?_⟩;refine(cw.2 (rQ D w8 _ b _ _ U _ b' E.oQ c za B)).mono ?_;rintro e w9 ⟨⟨b9,ta9,tc9,V⟩,rfl,Z⟩;have ze:=aG V;have zc:=aG (L.oQ.trans Z);clear V Z L E U;gi_wp2_with fail;go_wp2;go_ret;exact⟨⟨_,_,_,by rw[N.oQ];exact ze.oQ⟩,by rw[N.oQ];rfl,zc.oQ⟩
  ·have N:Hid (aX s (n::a)=(s,cX)):=by rw[Hid,←zC (s:=s) hl,aX,hn];rfl
   have hl':((a.length:Int)+1==2)=false:=by rw[beq_eq_false_iff_ne];omega
   clear hl;go_wp2;go_ret;exact⟨⟨_,_,_,by rw[N.oQ];exact H⟩,by rw[N.oQ];rfl,aT.below HN.oQ⟩
def IM (D:Nat)(b:Bk)(vw:Value)(bl off:Nat)(nm:ByteArray)(n:ByteArray)(tk:Bool)(s':Bk)(c:Int)(j:Nat)(v:Value)(w:World):Prop:=
 match j with
 |0|1|2|3=>v=.pointer (some ⟨D,0,none⟩)
 |4=>v=b.val
 |5|8=>v=vw
 |6=>v=.pointer (some ⟨bl,off+1,none⟩)
 |7=>v=.string nm
 |9=>v=.pointer (some ⟨bl,off,none⟩)
 |10=>v=.string n
 |11=>v=.bool tk
 |12=>∃b':Bk,v=.tuple #[b'.val,.int .i64 c]/\dZ (λk=>k=D) w s' b'
 |13=>∃b':Bk,v=b'.val/\dZ (λk=>k=D) w s' b'
 |14=>v=.int .i64 c
 |_=>True
theorem IM.zL {D:Nat}{b:Bk}{h:Value}{e a:Nat}{nm:ByteArray}{n:ByteArray}{g:Bool}{f:Bk}{c:Int}(j:Nat)(v:Value)(w w':World)(d:IM D b h e a nm n g f c j v w)(l:aF w w'):IM D b h e a nm n g f c j v w':=by
 unfold IM at*;split at d
 all_goals first
  |exact d
  |(obtain⟨b',i,k⟩:=d;exact⟨b',i,k.zL l⟩)
theorem TC (D:Nat) (w:World) (s:St) (b:Bk) (ta:Option Addr) (tc kk:Nat) (A:nU D w s b ta tc) (Y:iP kk s) (_hkk:kk<=1000) (n:ByteArray) (a:List ByteArray) (z d f:Nat) (B:Xs 1 dS w (some ⟨z,d,none⟩) (n::a)) (hcap:a.length+1<=f) (hlen:a.length+1<=1048570) (_hsz:∀x∈n::a,x.size<=1048575) (hn:n.toList=uN):
 aY 7 #[.pointer (some ⟨D,0,none⟩),.slice (some ⟨z,d,none⟩) (a.length+1) f] w λe w'=>OP D w (aX s (n::a)) e w':=by
 have E:=gO B 0 n rfl;rw[Nat.add_zero]at E;have L:Xs 1 dS w (some ⟨z,d+1,none⟩) a:=i7 B 1 [n] _ [] (by simp) rfl;go_enter Tryz.func7,Tryz.ntmps7;go_upto_region 1 with fail;go_cut [5,6] (λv5 v6 wx=>v6=.bool (jG a)/\Hid (jG a=true->∃Z c',v5=.slice Z (aS a).length c'/\Xs 1 eW wx Z (aS a))/\aF w wx)
 case first=>
  by_cases r:f=1
  ·have ha:a=[]:=List.eq_nil_of_length_eq_zero (by omega);subst ha;subst r;go_wp2_with fail;refine(bW [] (some ⟨z,d,none⟩) 0 w (.inl rfl) (by simp)).mono ?_;rintro e w1 ⟨⟨v1,rfl,j⟩,C⟩;have y:=aG j;clear j;go_wp2;go_meet;exact⟨rfl,y,C⟩
  ·have hc2:1<f:=by omega
   go_wp2_with fail;refine(bW a (some ⟨z,d+1,none⟩) (f-1) w L (by omega)).mono ?_;rintro e w1 ⟨⟨v1,rfl,j⟩,C⟩;have y:=aG j;clear j;go_wp2;go_meet;exact⟨rfl,y,C⟩
 case rest=>
  obtain⟨rfl,HV,I⟩:=hcut;replace B:=B.zL I;replace E:=(I.cell (aA E)).trans E;replace A:=A.zL I;have U:=aG I;clear L I;by_cases P:a.length=1
  ·obtain⟨nm,rfl⟩:∃nm,a=[nm]:=List.length_eq_one_iff.1 P;have c1:=gO B 1 nm rfl;have HS0:Hid _:=B;clear B P HV;obtain⟨N,r⟩:=oC s.b nm;have H:Hid (aX s [n,nm]=(⟨dM s.b s.b.now (dK s.b nm true),s.t⟩,iK (cJ s.b nm))):=by rw[Hid,aX,hn];rfl
   obtain⟨c,u⟩:=cK (cJ s.b nm);have G:Hid (aX s [n,nm]=(⟨dM s.b s.b.now (dK s.b nm true),s.t⟩,iK c)):=by rw[←u];exact H.oQ
   rw[u]at N r;have T:=aG u;have S:Hid (aT (λk=>k=D) w _):=aT.below U.oQ;clear u H U;go_upto_region 14 with fail;refine pG 15 [some 129,some 130,some 131,some 132,some 133,some 134,some 135,some 136,some 137,some 138,some 139,some 140,some 141,some 142,some 143] (IM D b (.slice (some ⟨z,d,none⟩) 2 f) z d nm n true (dM s.b s.b.now (dK s.b nm true)) c) IM.zL ?step ?fin
   case step=>
    intro ii o O w' X m p l;obtain⟨z0z,z1z,z2z,z3z⟩:=(A.zL p).c;have z4z:=(p.cell (aA c1)).trans c1;have z5z:=(p.cell (aA E)).trans E;match ii,X with
    |2,_|3,_|4,_|6,_|7,_|9,_|10,_|11,_=>
     simp at m;subst m;simp[Region.binds,IM]at l;simp only[aE,Act.put,l];gi_wp2;exact⟨_,by simp[aH,l],rfl,br _ _⟩
    |0,_|1,_|5,_|8,_=>
     simp at m;subst m;simp only[aE,Act.put];gi_wp2;exact⟨_,by simp[aH],rfl,br _ _⟩
    |12,_=>
     simp at m;subst m;simp[Region.binds,IM]at l;simp only[aE,Act.put,l];gi_wp2_with fail;refine⟨trivial,rfl,?_⟩;refine(cw.2 (DK (S':=λk=>k=D) (A.zL p).b Y.b nm true (λk e=>by rw[e];exact gT (A.zL p).o))).mono ?_;rintro e w5 ⟨⟨b',rfl,i⟩,W⟩;have v:=aG i;clear i;rw[T.oQ];gi_wp2;exact⟨_,by simp[aH,l],⟨b',rfl,v.oQ⟩,W⟩
    |13,_=>
     simp at m;subst m;obtain⟨b',g,i⟩:=Zq l 12;have v:=aG i;clear l i;simp only[aE,Act.put,g];gi_wp2;exact⟨_,by simp[aH,g],⟨b',rfl,v.oQ⟩,br _ _⟩
    |14,_=>
     simp at m;subst m;obtain⟨b',g,i⟩:=Zq l 12;have v:=aG i;clear l i;simp only[aE,Act.put,g];gi_wp2;exact⟨_,by simp[aH,g],rfl,br _ _⟩
    |q+15,h=>exact absurd h (by omega)
   case fin=>
    intro O w8 p Q;have e0:O 0=.pointer (some ⟨D,0,none⟩):=Q 0 (by decide);obtain⟨b',eb,i⟩:=Q 13 (by decide);have ec:O 14=.int .i64 c:=Q 14 (by decide);have J:=A.zL p;have F:=aG (S.oQ.trans (aT.below p));have v:=aG i;clear Q p i;simp only[lds,List.drop_zero,aE,Act.put];rw[e0,eb,ec];clear e0 eb ec;generalize O=O;gi_wp2_with fail;refine⟨trivial,rfl,?_⟩;refine(cw.2 (rQ D w8 _ b _ _ J _ b' v.oQ c N r)).mono ?_;rintro e w9 ⟨⟨b9,ta9,tc9,K⟩,rfl,M⟩;have V:=aG K;have R:=aG (F.oQ.trans M);clear K M F v J;gi_wp2_with fail;go_wp2;go_ret;exact⟨⟨_,_,_,by rw[G.oQ];exact V.oQ⟩,by rw[G.oQ];rfl,R.oQ⟩
  ·have G:Hid (aX s (n::a)=(s,cX)):=by rw[Hid,←wJ (took:=true) (s:=s) P,aX,hn];rfl
   have hl':((a.length:Int)+1==2)=false:=by rw[beq_eq_false_iff_ne];omega
   clear P;go_wp2;go_ret;exact⟨⟨_,_,_,by rw[G.oQ];exact A⟩,by rw[G.oQ];rfl,aT.below U.oQ⟩
def IO (D:Nat)(b:Bk)(vn:Value)(g oo:Nat)(x:Int)(s':Bk)(c:Int)(j:Nat)(v:Value)(w:World):Prop:=
 match j with
 |0|1|2|3=>v=.pointer (some ⟨D,0,none⟩)
 |4=>v=b.val
 |5=>v=vn
 |6=>v=.pointer (some ⟨g,oo,none⟩)
 |7=>v=.int .i64 x
 |8=>∃b':Bk,v=.tuple #[b'.val,.int .i64 c]/\dZ (λk=>k=D) w s' b'
 |9=>∃b':Bk,v=b'.val/\dZ (λk=>k=D) w s' b'
 |10=>v=.int .i64 c
 |_=>True
theorem IO.zL {D:Nat}{b:Bk}{f:Value}{g d:Nat}{x:Int}{e:Bk}{c:Int}(j:Nat)(v:Value)(w w':World)(a:IO D b f g d x e c j v w)(k:aF w w'):IO D b f g d x e c j v w':=by
 unfold IO at*;split at a
 all_goals first
  |exact a
  |(obtain⟨b',h,i⟩:=a;exact⟨b',h,i.zL k⟩)
theorem TM (D:Nat) (w:World) (s:St) (b:Bk) (ta:Option Addr) (tc kk:Nat) (y:nU D w s b ta tc) (zc:iP kk s) (_hkk:kk<=1000) (n:ByteArray) (a:List ByteArray) (I l f:Nat) (N:Xs 1 dS w (some ⟨I,l,none⟩) (n::a)) (hcap:a.length+1<=f) (hlen:a.length+1<=1048570) (_hsz:∀x∈n::a,x.size<=1048575) (hn:n.toList=tW):
 aY 7 #[.pointer (some ⟨D,0,none⟩),.slice (some ⟨I,l,none⟩) (a.length+1) f] w λe w'=>OP D w (aX s (n::a)) e w':=by
 have U:=gO N 0 n rfl;rw[Nat.add_zero]at U;have O:Xs 1 dS w (some ⟨I,l+1,none⟩) a:=i7 N 1 [n] _ [] (by simp) rfl;go_enter Tryz.func7,Tryz.ntmps7;go_upto_region 1 with fail;go_cut [5,6] (λv5 v6 wx=>v6=.bool (jG a)/\Hid (jG a=true->∃a' c',v5=.slice a' (aS a).length c'/\Xs 1 eW wx a' (aS a))/\aF w wx)
 case first=>
  by_cases p:f=1
  ·have ha:a=[]:=List.eq_nil_of_length_eq_zero (by omega);subst ha;subst p;go_wp2_with fail;refine(bW [] (some ⟨I,l,none⟩) 0 w (.inl rfl) (by simp)).mono ?_;rintro e w1 ⟨⟨v1,rfl,j⟩,E⟩;have C:=aG j;clear j;go_wp2;go_meet;exact⟨rfl,C,E⟩
  ·have hc2:1<f:=by omega
   go_wp2_with fail;refine(bW a (some ⟨I,l+1,none⟩) (f-1) w O (by omega)).mono ?_;rintro e w1 ⟨⟨v1,rfl,j⟩,E⟩;have C:=aG j;clear j;go_wp2;go_meet;exact⟨rfl,C,E⟩
 case rest=>
  obtain⟨rfl,HV,K⟩:=hcut;replace N:=N.zL K;replace U:=(K.cell (aA U)).trans U;replace y:=y.zL K;have T:=aG K;clear O K;by_cases z:a.length=1/\jG a=true
  ·obtain⟨z,d⟩:=z;obtain⟨F,rfl⟩:∃nm,a=[nm]:=List.length_eq_one_iff.1 z;obtain⟨a1,c1,rfl,zd⟩:=HV.oQ d;rcases zd with h|⟨g,oo,rfl,R⟩;·simp[aS]at h
   have i0:wc.cell? ⟨g,oo,none⟩=some (.int .i64 (aV F)):=by have:=R 0 (by simp[aS]) 0 _ rfl;simpa[aS]using this
   have e5:(aS [F]).length=1:=rfl;rw[e5,d];have N7:0<=aV F:=by simpa[jG]using d
   obtain⟨x,hx⟩:=bP (aV F);obtain⟨Q,p⟩:=AF s.b x
   have H:Hid (aX s [n,F]=(⟨dM s.b (fF s.b x) (eR s.b x),s.t⟩,iK (cV s.b x))):=by
    rw[Hid,aX,hn,hx];show lT s [F]=_;rw[lT,if_pos N7]
   rw[←hx]at i0;obtain⟨c,r⟩:=cK (cV s.b x);have B:Hid (aX s [n,F]=(⟨dM s.b (fF s.b x) (eR s.b x),s.t⟩,iK c)):=by rw[←r];exact H.oQ
   rw[r]at Q p;have Y:=aG r;have X:Hid (aT (λk=>k=D) w _):=aT.below T.oQ;clear r H T hx N7 e5 R d z HV N;go_upto_region 16 with fail;refine pG 11 [some 158,some 159,some 160,some 161,some 162,some 163,some 164,some 165,some 166,some 167,some 168] (IO D b (.slice (some ⟨g,oo,none⟩) 1 c1) g oo x (dM s.b (fF s.b x) (eR s.b x)) c) IO.zL ?step ?fin
   case step=>
    intro ii o S w' zb d v m;obtain⟨z0z,z1z,z2z,z3z⟩:=(y.zL v).c;have z4z:=(v.cell (aA i0)).trans i0;match ii,zb with
    |2,_|3,_|4,_|6,_|7,_=>
     simp at d;subst d;simp[Region.binds,IO]at m;simp only[aE,Act.put,m];gi_wp2;exact⟨_,by simp[aH,m],rfl,br _ _⟩
    |0,_|1,_|5,_=>
     simp at d;subst d;simp only[aE,Act.put];gi_wp2;exact⟨_,by simp[aH],rfl,br _ _⟩
    |8,_=>
     simp at d;subst d;simp[Region.binds,IO]at m;simp only[aE,Act.put,m];gi_wp2_with fail;refine⟨trivial,rfl,?_⟩;refine(cw.2 (PB (S':=λk=>k=D) (y.zL v).b zc.b x (λk e=>by rw[e];exact gT (y.zL v).o))).mono ?_;rintro e w5 ⟨⟨b',rfl,i⟩,za⟩;have A:=aG i;clear i;rw[Y.oQ];gi_wp2;exact⟨_,by simp[aH,m],⟨b',rfl,A.oQ⟩,za⟩
    |9,_=>
     simp at d;subst d;obtain⟨b',J,i⟩:=Zq m 8;have A:=aG i;clear m i;simp only[aE,Act.put,J];gi_wp2;exact⟨_,by simp[aH,J],⟨b',rfl,A.oQ⟩,br _ _⟩
    |10,_=>
     simp at d;subst d;obtain⟨b',J,i⟩:=Zq m 8;have A:=aG i;clear m i;simp only[aE,Act.put,J];gi_wp2;exact⟨_,by simp[aH,J],rfl,br _ _⟩
    |q+11,h=>exact absurd h (by omega)
   case fin=>
    intro S w8 v V;have e0:S 0=.pointer (some ⟨D,0,none⟩):=V 0 (by decide);obtain⟨b',eb,i⟩:=V 9 (by decide);have ec:S 10=.int .i64 c:=V 10 (by decide);have L:=y.zL v;have G:=aG (X.oQ.trans (aT.below v));have A:=aG i;clear V v i;simp only[lds,List.drop_zero,aE,Act.put];rw[e0,eb,ec];clear e0 eb ec;generalize S=S;gi_wp2_with fail;refine⟨trivial,rfl,?_⟩;refine(cw.2 (rQ D w8 _ b _ _ L _ b' A.oQ c Q p)).mono ?_;rintro e w9 ⟨⟨b9,ta9,tc9,M⟩,rfl,P⟩;have Z:=aG M;have W:=aG (G.oQ.trans P);clear M P G A L;gi_wp2_with fail;go_wp2;go_ret;exact⟨⟨_,_,_,by rw[B.oQ];exact Z.oQ⟩,by rw[B.oQ];rfl,W.oQ⟩
  ·have B:Hid (aX s (n::a)=(s,cX)):=by rw[Hid,←DF (s:=s) z,aX,hn];rfl
   by_cases u:a.length=1
   ·have d:jG a=false:=by
     cases e:jG a with
     |false=>rfl
     |true=>exact absurd ⟨u,e⟩ z
    rw[d,u];clear z u HV;go_wp2;go_ret;exact⟨⟨_,_,_,by rw[B.oQ];exact y⟩,by rw[B.oQ];rfl,aT.below T.oQ⟩
   ·have hl':((a.length:Int)+1==2)=false:=by rw[beq_eq_false_iff_ne];omega
    clear z u;go_wp2;go_ret;exact⟨⟨_,_,_,by rw[B.oQ];exact y⟩,by rw[B.oQ];rfl,aT.below T.oQ⟩
def JP (D:Nat)(b:Bk)(vw:Value)(bl off:Nat)(nm:ByteArray)(n:ByteArray)(tk:Bool)(s':Bk)(c:Int)(j:Nat)(v:Value)(w:World):Prop:=
 match j with
 |0|1|2|3=>v=.pointer (some ⟨D,0,none⟩)
 |4=>v=b.val
 |5|8=>v=vw
 |6=>v=.pointer (some ⟨bl,off+1,none⟩)
 |7=>v=.string nm
 |9=>v=.pointer (some ⟨bl,off,none⟩)
 |10=>v=.string n
 |11=>v=.bool tk
 |12=>∃b':Bk,v=.tuple #[b'.val,.int .i64 c]/\dZ (λk=>k=D) w s' b'
 |13=>∃b':Bk,v=b'.val/\dZ (λk=>k=D) w s' b'
 |14=>v=.int .i64 c
 |_=>True
theorem JP.zL {D:Nat}{b:Bk}{h:Value}{e a:Nat}{nm:ByteArray}{n:ByteArray}{g:Bool}{f:Bk}{c:Int}(j:Nat)(v:Value)(w w':World)(d:JP D b h e a nm n g f c j v w)(l:aF w w'):JP D b h e a nm n g f c j v w':=by
 unfold JP at*;split at d
 all_goals first
  |exact d
  |(obtain⟨b',i,k⟩:=d;exact⟨b',i,k.zL l⟩)
theorem V5 (D:Nat) (w:World) (s:St) (b:Bk) (ta:Option Addr) (tc kk:Nat) (A:nU D w s b ta tc) (Y:iP kk s) (_hkk:kk<=1000) (n:ByteArray) (a:List ByteArray) (z d f:Nat) (B:Xs 1 dS w (some ⟨z,d,none⟩) (n::a)) (hcap:a.length+1<=f) (hlen:a.length+1<=1048570) (_hsz:∀x∈n::a,x.size<=1048575) (hn:n.toList=FK):
 aY 7 #[.pointer (some ⟨D,0,none⟩),.slice (some ⟨z,d,none⟩) (a.length+1) f] w λe w'=>OP D w (aX s (n::a)) e w':=by
 have E:=gO B 0 n rfl;rw[Nat.add_zero]at E;have L:Xs 1 dS w (some ⟨z,d+1,none⟩) a:=i7 B 1 [n] _ [] (by simp) rfl;go_enter Tryz.func7,Tryz.ntmps7;go_upto_region 1 with fail;go_cut [5,6] (λv5 v6 wx=>v6=.bool (jG a)/\Hid (jG a=true->∃Z c',v5=.slice Z (aS a).length c'/\Xs 1 eW wx Z (aS a))/\aF w wx)
 case first=>
  by_cases r:f=1
  ·have ha:a=[]:=List.eq_nil_of_length_eq_zero (by omega);subst ha;subst r;go_wp2_with fail;refine(bW [] (some ⟨z,d,none⟩) 0 w (.inl rfl) (by simp)).mono ?_;rintro e w1 ⟨⟨v1,rfl,j⟩,C⟩;have y:=aG j;clear j;go_wp2;go_meet;exact⟨rfl,y,C⟩
  ·have hc2:1<f:=by omega
   go_wp2_with fail;refine(bW a (some ⟨z,d+1,none⟩) (f-1) w L (by omega)).mono ?_;rintro e w1 ⟨⟨v1,rfl,j⟩,C⟩;have y:=aG j;clear j;go_wp2;go_meet;exact⟨rfl,y,C⟩
 case rest=>
  obtain⟨rfl,HV,I⟩:=hcut;replace B:=B.zL I;replace E:=(I.cell (aA E)).trans E;replace A:=A.zL I;have U:=aG I;clear L I;by_cases P:a.length=1
  ·obtain⟨nm,rfl⟩:∃nm,a=[nm]:=List.length_eq_one_iff.1 P;have c1:=gO B 1 nm rfl;have HS0:Hid _:=B;clear B P HV;obtain⟨N,r⟩:=oC s.b nm;have H:Hid (aX s [n,nm]=(⟨dM s.b s.b.now (dK s.b nm false),s.t⟩,iK (cJ s.b nm))):=by rw[Hid,aX,hn];rfl
   obtain⟨c,u⟩:=cK (cJ s.b nm);have G:Hid (aX s [n,nm]=(⟨dM s.b s.b.now (dK s.b nm false),s.t⟩,iK c)):=by rw[←u];exact H.oQ
   rw[u]at N r;have T:=aG u;have S:Hid (aT (λk=>k=D) w _):=aT.below U.oQ;clear u H U;go_upto_region 14 with fail;refine pG 15 [some 129,some 130,some 131,some 132,some 133,some 134,some 135,some 136,some 137,some 138,some 139,some 140,some 141,some 142,some 143] (JP D b (.slice (some ⟨z,d,none⟩) 2 f) z d nm n false (dM s.b s.b.now (dK s.b nm false)) c) JP.zL ?step ?fin
   case step=>
    intro ii o O w' X m p l;obtain⟨z0z,z1z,z2z,z3z⟩:=(A.zL p).c;have z4z:=(p.cell (aA c1)).trans c1;have z5z:=(p.cell (aA E)).trans E;match ii,X with
    |2,_|3,_|4,_|6,_|7,_|9,_|10,_|11,_=>
     simp at m;subst m;simp[Region.binds,JP]at l;simp only[aE,Act.put,l];gi_wp2;exact⟨_,by simp[aH,l],rfl,br _ _⟩
    |0,_|1,_|5,_|8,_=>
     simp at m;subst m;simp only[aE,Act.put];gi_wp2;exact⟨_,by simp[aH],rfl,br _ _⟩
    |12,_=>
     simp at m;subst m;simp[Region.binds,JP]at l;simp only[aE,Act.put,l];gi_wp2_with fail;refine⟨trivial,rfl,?_⟩;refine(cw.2 (DK (S':=λk=>k=D) (A.zL p).b Y.b nm false (λk e=>by rw[e];exact gT (A.zL p).o))).mono ?_;rintro e w5 ⟨⟨b',rfl,i⟩,W⟩;have v:=aG i;clear i;rw[T.oQ];gi_wp2;exact⟨_,by simp[aH,l],⟨b',rfl,v.oQ⟩,W⟩
    |13,_=>
     simp at m;subst m;obtain⟨b',g,i⟩:=Zq l 12;have v:=aG i;clear l i;simp only[aE,Act.put,g];gi_wp2;exact⟨_,by simp[aH,g],⟨b',rfl,v.oQ⟩,br _ _⟩
    |14,_=>
     simp at m;subst m;obtain⟨b',g,i⟩:=Zq l 12;have v:=aG i;clear l i;simp only[aE,Act.put,g];gi_wp2;exact⟨_,by simp[aH,g],rfl,br _ _⟩
    |q+15,h=>exact absurd h (by omega)
   case fin=>
    intro O w8 p Q;have e0:O 0=.pointer (some ⟨D,0,none⟩):=Q 0 (by decide);obtain⟨b',eb,i⟩:=Q 13 (by decide);have ec:O 14=.int .i64 c:=Q 14 (by decide);have J:=A.zL p;have F:=aG (S.oQ.trans (aT.below p));have v:=aG i;clear Q p i;simp only[lds,List.drop_zero,aE,Act.put];rw[e0,eb,ec];clear e0 eb ec;generalize O=O;gi_wp2_with fail;refine⟨trivial,rfl,?_⟩;refine(cw.2 (rQ D w8 _ b _ _ J _ b' v.oQ c N r)).mono ?_;rintro e w9 ⟨⟨b9,ta9,tc9,K⟩,rfl,M⟩;have V:=aG K;have R:=aG (F.oQ.trans M);clear K M F v J;gi_wp2_with fail;go_wp2;go_ret;exact⟨⟨_,_,_,by rw[G.oQ];exact V.oQ⟩,by rw[G.oQ];rfl,R.oQ⟩
  ·have G:Hid (aX s (n::a)=(s,cX)):=by rw[Hid,←wJ (took:=false) (s:=s) P,aX,hn];rfl
   have hl':((a.length:Int)+1==2)=false:=by rw[beq_eq_false_iff_ne];omega
   clear P;go_wp2;go_ret;exact⟨⟨_,_,_,by rw[G.oQ];exact A⟩,by rw[G.oQ];rfl,aT.below U.oQ⟩
def WW (D:Nat)(vw:Value)(bl off:Nat)(nm xw:ByteArray)(x:Int)(j:Nat)(v:Value)(_w:World):Prop:=
 match j with
 |0=>v=.pointer (some ⟨D,0,none⟩)
 |1|4=>v=vw
 |2=>v=.pointer (some ⟨bl,off+1,none⟩)
 |3=>v=.string nm
 |5=>v=.pointer (some ⟨bl,off+2,none⟩)
 |6=>v=.string xw
 |7=>v=.int .i64 x
 |_=>True
theorem wQ {s:St}{a:List ByteArray}(h:¬a.length=2):mY s a=(s,cX):=by
 unfold mY;split;·simp at h
 ·rfl
theorem Z3 {a:List ByteArray}(h:a.length=2):∃b c,a=[b,c]:=by
 match a,h with
 |[b,c],_=>exact⟨b,c,rfl⟩
theorem TR (D:Nat) (w:World) (s:St) (b:Bk) (ta:Option Addr) (tc S:Nat) (F:nU D w s b ta tc) (Q:iP S s) (hkk:S<=1000) (n:ByteArray) (a:List ByteArray) (m d f:Nat) (r:Xs 1 dS w (some ⟨m,d,none⟩) (n::a)) (hcap:a.length+1<=f) (hlen:a.length+1<=1048570) (_hsz:∀x∈n::a,x.size<=1048575) (hn:n.toList=uR):
 aY 7 #[.pointer (some ⟨D,0,none⟩),.slice (some ⟨m,d,none⟩) (a.length+1) f] w λe w'=>OP D w (aX s (n::a)) e w':=by
 have H:=gO r 0 n rfl;rw[Nat.add_zero]at H;have G:Xs 1 dS w (some ⟨m,d+1,none⟩) a:=i7 r 1 [n] _ [] (by simp) rfl;go_enter Tryz.func7,Tryz.ntmps7;go_upto_region 1 with fail;go_cut [5,6] (λv5 v6 wx=>v6=.bool (jG a)/\Hid (jG a=true->∃U c',v5=.slice U (aS a).length c'/\Xs 1 eW wx U (aS a))/\aF w wx)
 case first=>
  by_cases O:f=1
  ·have ha:a=[]:=List.eq_nil_of_length_eq_zero (by omega);subst ha;subst O;go_wp2_with fail;refine(bW [] (some ⟨m,d,none⟩) 0 w (.inl rfl) (by simp)).mono ?_;rintro e T ⟨⟨v1,rfl,g⟩,u⟩;have k:=aG g;clear g;go_wp2;go_meet;exact⟨rfl,k,u⟩
  ·have hc2:1<f:=by omega
   go_wp2_with fail;refine(bW a (some ⟨m,d+1,none⟩) (f-1) w G (by omega)).mono ?_;rintro e T ⟨⟨v1,rfl,g⟩,u⟩;have k:=aG g;clear g;go_wp2;go_meet;exact⟨rfl,k,u⟩
 case rest=>
  obtain⟨rfl,HV,E⟩:=hcut;replace r:=r.zL E;replace H:=(E.cell (aA H)).trans H;replace F:=F.zL E;have L:=aG E;clear G E;by_cases I:a.length=2
  ·obtain⟨nm,i,rfl⟩:=Z3 I;have V:=gO r 1 nm rfl;have W:=gO r 2 i rfl;have c:Hid (aX s [n,nm,i]=if 0<=aV i then(s,mS s.b nm s.t (aV i))else(s,cX)):=by rw[Hid,aX,hn];rfl
   obtain⟨x,hx⟩:=cK (aV i);have l:=aG hx;rw[hx]at c;clear hx I HV r;by_cases N7:0<=x
   ·have j:Hid (aX s [n,nm,i]=(s,mS s.b nm s.t x)):=by rw[Hid,c.oQ,if_pos N7]
    have R:decide (0<=x)=true:=decide_eq_true N7;clear c;go_wp2_with fail;refine(mM i wc).mono ?_;rintro e T ⟨rfl,rfl⟩;rw[l.oQ];go_upto_region 20 with fail;refine pG 8 [some 199,some 200,some 201,some 202,some 203,some 204,some 205,some 206] (WW D (.slice (some ⟨m,d,none⟩) 3 f) m d nm i x) (λ_ _ _ _ h _=>h) ?step ?fin
    case step=>
     intro ii o B w' P A y z;have z0z:=(y.cell (aA V)).trans V;have z1z:=(y.cell (aA W)).trans W;match ii,P with
     |2,_|3,_|5,_|6,_=>
      simp at A;subst A;simp[Region.binds,WW]at z;simp only[aE,Act.put,z];gi_wp2;exact⟨_,by simp[aH,z],rfl,br _ _⟩
     |0,_|1,_|4,_=>
      simp at A;subst A;simp only[aE,Act.put];gi_wp2;exact⟨_,by simp[aH],rfl,br _ _⟩
     |7,_=>
      simp at A;subst A;simp[Region.binds,WW]at z;simp only[aE,Act.put,z];gi_wp2_with fail;refine⟨trivial,rfl,?_⟩;refine(cw.2 (mM i w')).mono ?_;rintro e w5 ⟨rfl,rfl⟩;rw[l.oQ];have N:=br w5.heap.size w5;gi_wp2;exact⟨_,by simp[aH,z],rfl,N⟩
     |q+8,h=>exact absurd h (by omega)
    case fin=>
     intro B w8 y J;have X:B 0=.pointer (some ⟨D,0,none⟩):=J 0 (by decide);have Y:B 3=.string nm:=J 3 (by decide);have Z:B 7=.int .i64 x:=J 7 (by decide);have p:=F.zL y;have C:=aG (aC L.oQ y);clear J y;simp only[lds,List.drop_zero,aE,Act.put];rw[X,Y,Z];clear X Y Z;generalize B=B;gi_wp2_with fail;refine⟨trivial,rfl,?_⟩;refine(cw.2 (RL D w8 s b ta tc S nm x p Q (by omega))).mono ?_;rintro e w9 ⟨rfl,v⟩;have M:=aG (p.zL v);have K:=aG (aC C.oQ v);clear v C p;gi_wp2_with fail;go_wp2;go_ret;exact⟨⟨_,_,_,by rw[j.oQ];exact M.oQ⟩,by rw[j.oQ];rfl,aT.below K.oQ⟩
   ·have j:Hid (aX s [n,nm,i]=(s,cX)):=by rw[Hid,c.oQ,if_neg N7]
    have R:decide (0<=x)=false:=decide_eq_false N7;clear c;go_wp2_with fail;refine(mM i wc).mono ?_;rintro e T ⟨rfl,rfl⟩;rw[l.oQ];go_wp2;go_ret;exact⟨⟨_,_,_,by rw[j.oQ];exact F⟩,by rw[j.oQ];rfl,aT.below L.oQ⟩
  ·have j:Hid (aX s (n::a)=(s,cX)):=by rw[Hid,←wQ (s:=s) I,aX,hn];rfl
   have hl':((a.length:Int)+1==3)=false:=by rw[beq_eq_false_iff_ne];omega
   clear I;go_wp2;go_ret;exact⟨⟨_,_,_,by rw[j.oQ];exact F⟩,by rw[j.oQ];rfl,aT.below L.oQ⟩
theorem RP (D:Nat)(w:World)(s:St)(b:Bk)(ta:Option Addr)(m l:Nat)(o:nU D w s b ta m)(i:iP l s)(h:l<=1000)(q:List ByteArray)(r:q≠[])(k g f:Nat)(p:Xs 1 dS w (some ⟨k,g,none⟩) q)(c:q.length<=f)(d:q.length<=1048570)(j:∀x∈q,x.size<=1048575):
 aY 7 #[.pointer (some ⟨D,0,none⟩),.slice (some ⟨k,g,none⟩) q.length f] w λe w'=>OP D w (aX s q) e w':=by
 obtain⟨n,a,rfl⟩:=List.exists_cons_of_ne_nil r;by_cases t:n.toList=pA;·exact RK D w s b ta m l o i h n a k g f p c d j t
 by_cases u:n.toList=vE;·exact TD D w s b ta m l o i h n a k g f p c d j u
 by_cases v:n.toList=FI;·exact VR D w s b ta m l o i h n a k g f p c d j v
 by_cases y:n.toList=oI;·exact QT D w s b ta m l o i h n a k g f p c d j y
 by_cases z:n.toList=uN;·exact TC D w s b ta m l o i h n a k g f p c d j z
 by_cases A:n.toList=FK;·exact V5 D w s b ta m l o i h n a k g f p c d j A
 by_cases B:n.toList=tW;·exact TM D w s b ta m l o i h n a k g f p c d j B
 by_cases C:n.toList=tZ;·exact SO D w s b ta m l o i h n a k g f p c d j C
 by_cases E:n.toList=uR;·exact TR D w s b ta m l o i h n a k g f p c d j E
 exact SY D w s b ta m l o i h n a k g f p c d j t u v y z A B C E
theorem VU {w:World}(D:Nat)(h:w.heap[D]?=some (.cells #[.int .i64 0,.slice none 0 0,.slice none 0 0,.slice none 0 0] 33)):nU D w ZA ⟨0,none,[],0,none,[],0⟩ none 0:=
 ⟨h,⟨⟨rfl,rfl,QU⟩,λ_ _=>⟨.inl rfl,.inl rfl,λx hx=>by cases hx⟩,nlq _,nz _⟩,λ_ _=>.inl rfl⟩
theorem OA {l:List ByteArray}(m:Nat)(hm:l.length=m+1):l.getLastD ⟨#[]⟩=l[m]'(by omega):=by
 rw[List.getLastD_eq_getLast?,List.getLast?_eq_getElem?,show l.length-1=m from by omega,lge (by omega)];rfl
theorem yD (d:ByteArray)(w:World)(hs:d.size<=1048576):
 aY 4 #[.string d] w λe w'=>e=.returned (.string (B6 d))/\aF w w':=by
 go_enter Tryz.func4,Tryz.ntmps4
 go_wp2_with fail
 refine(rI d 10 w hs).mono ?_;rintro e t ⟨⟨v1,rfl,i⟩,ze⟩;have F:=yP 10 d;have B:=kP 10 d;have A:∀x∈bH 10 d,x.size<=d.size:=λx hx=>nS hx;have j:Hid (eZ d=if((bH 10 d).getLastD ⟨#[]⟩).toList=[]then(bH 10 d).dropLast else bH 10 d):=rfl;obtain⟨L,hL⟩:=bP (bH 10 d);rw[←hL]at i F B A j;clear hL;obtain⟨m,hm⟩:∃m,L.length=m+1:=⟨L.length-1,by have:=List.length_pos_iff.2 F;omega⟩;rw[OA m hm]at j;rw[hm]at i
 obtain⟨g,f,rfl⟩:∃g f,v1=.slice (some ⟨g,0,none⟩) (m+1) f:=by
  obtain⟨_,⟨_,e⟩|⟨g,f,_,e,_⟩⟩:=i
  ·omega
  ·exact⟨g,f,e⟩
 have hgw:w.heap.size<=g:=fB i rfl;have hg1:g<t.heap.size:=(i.lt g rfl).2;have H:m+1<=f:=(vD i).1
 have y:Xs 1 dS t (some ⟨g,0,none⟩) L:=by
  rw[←hm]at i;obtain⟨a,c,e,hx⟩:=q9 i
  cases e
  exact hx
 have cl:t.cell? ⟨g,m,none⟩=some (.string (L[m]'(by omega))):=by
  have:=gO y m (L[m]'(by omega)) (by rw[lge])
  simpa using this
 have zi:((m+1:Nat):Int)-1=(m:Int):=by omega
 have zw:m<=1048576:=by omega
 have zv:m<=f:=by omega
 have u:=aG ze;have X:=aG hm;obtain⟨z,hz⟩:=bP (L[m]'(by omega));rw[←hz]at cl j;clear i ze hz hm
 by_cases s:z.toList=[]
 case' pos=>
  obtain⟨T,v⟩:=bP (L.take m)
  have K:Hid (eZ d=T):=by
   rw[Hid,j.oQ,if_pos s,v,List.dropLast_eq_take]
   congr 1
   have:=X.oQ;omega
  have l:Hid (T.length=m):=by rw[Hid,v,List.length_take];have:=X.oQ;omega
  have N:Xs 1 dS t (some ⟨g,0,none⟩) T:=by rw[v];exact y.take m
  have I:∀x∈T,x.size<=d.size:=λx hx=>A x (by rw[v]at hx;exact List.mem_of_mem_take hx);have U:(z.toList==[])=true:=by rw[s];rfl
  clear v A y X F B j
  go_upto_region 4 with fail
  clear cl s U zi H;obtain⟨n,hn⟩:=bP m;subst hn
 case' neg=>
  obtain⟨T,v⟩:=bP L;have K:Hid (eZ d=T):=by rw[Hid,j.oQ,if_neg s,v]
  have l:Hid (T.length=m+1):=by rw[Hid,v];exact X.oQ
  have N:Xs 1 dS t (some ⟨g,0,none⟩) T:=by rw[v];exact y
  have I:∀x∈T,x.size<=d.size:=λx hx=>A x (by rw[v]at hx;exact hx);have U:(z.toList==[])=false:=by rw[beq_eq_false_iff_ne];exact s
  clear v A y X F B j
  go_upto_region 4 with fail
  clear cl s U zi zv;obtain⟨n,hn⟩:=bP (m+1);rw[←hn]at l H ⊢
  replace zw:n<=1048577:=by omega
  clear hn
 all_goals
  by_cases h1:20000<d.size
  ·have Y:=aG (if_pos h1)
   have zp:decide ((20000:Int)<(d.size:Int))=true:=by rw[dte];omega
   go_wp2
   go_ret;exact⟨by rw[Y.oQ];rfl,u.oQ⟩
  have zp:decide ((20000:Int)<(d.size:Int))=false:=by rw[decide_eq_false_iff_not];omega
  by_cases h2:300<n
  ·have Y:Hid (B6 d=CY):=by rw[Hid,B6,if_neg h1,K.oQ,l.oQ,if_pos h2]
   have zq:decide ((300:Int)<(n:Int))=true:=by rw[dte];omega
   go_wp2
   go_ret;exact⟨by rw[Y.oQ];rfl,u.oQ⟩
  have zq:decide ((300:Int)<(n:Int))=false:=by rw[decide_eq_false_iff_not];omega
  have Y:Hid (B6 d=(nP T).2):=by rw[Hid,B6,if_neg h1,K.oQ,l.oQ,if_neg h2]
  have zx:=F7 T;have E:aF t (t.alloc (.cells #[.int .i64 0,.slice none 0 0,.slice none 0 0,.slice none 0 0] 33)):=aB (br _ _) _;have M:Hid (nU t.heap.size (t.alloc (.cells #[.int .i64 0,.slice none 0 0,.slice none 0 0,.slice none 0 0] 33)) ZA ⟨0,none,[],0,none,[],0⟩ none 0):=VU _ (wnq t _);obtain⟨W0,zc⟩:=cK (t.alloc (.cells #[.int .i64 0,.slice none 0 0,.slice none 0 0,.slice none 0 0] 33));rw[zc]at E M;have zn:=aG (aC u.oQ E);have zr:=N.zL E
  go_upto_region 8 with fail
  obtain⟨D,hD⟩:=bP t.heap.size;rw[←hD]at M ⊢;have zt:g≠D:=by omega
  have zz:w.heap.size<=D:=by have:=u.oQ.size;omega
  clear E N zc hD u;go_wp2
  go_loopw [5,6] (λov iv wr=>∃(k:Nat) (b:Bk) (ta:Option Addr) (tc:Nat),k<=n/\ov=.string (nP (T.take k)).2/\iv=.int .i64 k/\Hid (nU D wr (nP (T.take k)).1 b ta tc)/\Hid (aT (λq=>q=D) W0 wr)) (λ_ iv _=>n-(intOf iv).toNat)
  case atStart=>exact⟨0,_,_,_,nz _,rfl,rfl,M,aT.refl _ _⟩
  case round=>
   obtain⟨k,b,ta,tc,hk,rfl,rfl,HS,V⟩:=hrel;obtain⟨R,zy⟩:=zx k (by rw[l.oQ];exact hk)
   by_cases zu:k<n
   ·have zh:(k:Int)<(n:Int):=by omega
    have Q:k<T.length:=by rw[l.oQ];exact zu
    have c0:wr.cell? ⟨g,k,none⟩=some (.string T[k]):=by
     have:=gO zr k T[k] (by rw[lge]);rw[Nat.zero_add]at this;exact V.oQ.cell (p:=⟨g,k,none⟩) zt this
    have C:=aG (wP T k Q);have yb:=I _ (lgm Q);obtain⟨x,hx⟩:=bP (T[k]);rw[←hx]at c0 C yb;clear hx Q;obtain⟨P,hP⟩:=bP (nP (T.take k));rw[←hP]at HS C R zy ⊢;clear hP;go_wp2_with fail
    refine(rI x 32 wr (by omega)).mono ?_;rintro e w2 ⟨⟨v2,rfl,G⟩,O⟩;have ya:=kP 32 x;have S:=yP 32 x;have zk:∀q∈bH 32 x,q.size<=1048575:=λq hq=>by have:=nS hq;omega
    have o:=aG C.oQ;have zj:=wB R (bH 32 x);obtain⟨ws,J⟩:=bP (bH 32 x);rw[←J]at G ya S zk o zj;clear J C
    obtain⟨g2,Z,rfl,zs⟩:∃g f,v2=.slice (some ⟨g,0,none⟩) ws.length f/\ws.length<=f:=by
     obtain⟨_,⟨_,e⟩|⟨g,f,_,e,_,_,h,_⟩⟩:=G
     ·exact absurd (List.eq_nil_of_length_eq_zero e) S
     ·exact⟨g,f,e,h⟩
    have zd:Xs 1 dS w2 (some ⟨g2,0,none⟩) ws:=by
     obtain⟨a,c,e,hx⟩:=q9 G
     cases e
     exact hx
    have za:=HS.oQ.zL O;have W:=aG (V.oQ.trans (aT.below O));clear G O HS V c0;go_wp2_with fail
    refine(RP D w2 P.1 b ta tc k za R (by omega) ws S g2 0 Z zd zs (by omega) zk).mono ?_;rintro e w3 ⟨⟨b3,yc,yd,zb⟩,rfl,zf⟩;have zo:=aG zb;have zl:=aG (W.oQ.trans zf);obtain⟨r,hr⟩:=bP ((aX P.1 ws).2);rw[←hr]at zj o ⊢;clear zb zf W za zd hr;have g1:¬9223372036854775807<P.2.size+r.size:=by omega
    have g2':¬9223372036854775807<P.2.size+r.size+1:=by omega
    go_wp2
    go_roundw
    case rel=>exact⟨k+1,b3,yc,yd,by omega,by rw[o.oQ],by go_num,by rw[o.oQ];exact zo.oQ,zl⟩
    case measure=>simp[intOf];omega
   ·have zh:¬(k:Int)<(n:Int):=by omega
    have zg:T.take k=T:=ltl (by rw[l.oQ];omega);have zm:Hid (aF w wr):=V.oQ.under zn.oQ (nlq _) (λq e=>by rw[e];exact zz);rw[zg];clear zg HS V;go_wp2
    go_ret;exact⟨by rw[Y.oQ];rfl,zm.oQ⟩
end Go.Proofs.YtcdbcliaepcpfaaGreatDoor
