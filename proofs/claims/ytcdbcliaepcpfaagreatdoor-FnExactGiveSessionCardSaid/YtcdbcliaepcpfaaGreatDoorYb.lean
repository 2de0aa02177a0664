import Derived.Test.YtcdbcliaepcpfaaGreatDoorYa
import Derived.Test.YtcdbcliaepcpfaaGreatDoorXe
import Derived.Deep.DeepCutAuto
import Derived.Deep.CutBlock
namespace Go.Proofs.YtcdbcliaepcpfaaGreatDoor
open Go.RowKit
structure St where
 b:Bk
 t:List Bx
abbrev cX:ByteArray:=⟨#[98,97,100]⟩
abbrev SE:ByteArray:=⟨#[111,107]⟩
abbrev WT:ByteArray:=⟨#[110,111]⟩
abbrev XW:ByteArray:=⟨#[32]⟩
abbrev XS:ByteArray:=⟨#[10]⟩
abbrev UJ:ByteArray:=⟨#[45]⟩
def oJ (l:List Fx)(nm:ByteArray):Nat:=(l.takeWhile (λg=>fY g.n nm)).length
def gU (l:List Fx)(f:Fx):List Fx:=l.take (oJ l f.n)++f::l.drop (oJ l f.n)
def gH (b:Bk)(f:Fx):Bk:=⟨b.now,none,gU b.fl f,0,none,b.hl,0⟩
def fT (s:St):List ByteArray->St×ByteArray
 |[nm,x,y]=>if jG [x,y]then(if aN (gH s.b ⟨nm,aV x,aV y⟩)then(⟨gH s.b ⟨nm,aV x,aV y⟩,s.t⟩,SE)else(s,WT))else(s,cX)
 |_=>(s,cX)
def uQ (nm q sl f b l:ByteArray)(lv:List ByteArray)(cs:List (List Cx)):Wx:=⟨nm,aV q,aV sl,aV f,aV b,aV l,none,cs.map (λc=>⟨none,c,0⟩),0,none,aS lv,0⟩
def yU:List Co->ByteArray
 |[]=>⟨#[]⟩
 |c::_=>⟨#[108,97,116,101,32]⟩++dD c.d++⟨#[32,119,97,121,32]⟩++dD c.i++⟨#[32,108,101,118,101,108,32]⟩++dD c.k
def nK (s:St)(x:Wx):St×ByteArray:=(⟨dM s.b s.b.now (eU s.b x),s.t⟩,if dL s.b x=0 then yU (sA s.b x)else iK (dL s.b x))
def jW (s:St):List ByteArray->St×ByteArray
 |nm::q::sl::f::b::l::lv::y::ys=>
  if jG [q,sl,f,b,l]&&jG (bH 44 lv)then(match fI (y::ys)with|some cs=>nK s (uQ nm q sl f b l (bH 44 lv) cs)|none=>(s,cX))else(s,cX)
 |_=>(s,cX)
def uE (s:St):List ByteArray->St×ByteArray
 |[a,b,c,d,e,f]=>if jG [a,b,c,d,e,f]then(⟨s.b,s.t++[⟨aV a,aV b,aV c,aV d,aV e,aV f⟩]⟩,SE)else(s,cX)
 |_=>(s,cX)
def pF (s:St):List ByteArray->St×ByteArray
 |[nm]=>(⟨dM s.b s.b.now (fX s.b nm s.t),[]⟩,iK (dX s.b nm s.t))
 |_=>(s,cX)
def nA (took:Bool)(s:St):List ByteArray->St×ByteArray
 |[nm]=>(⟨dM s.b s.b.now (dK s.b nm took),s.t⟩,iK (cJ s.b nm))
 |_=>(s,cX)
def lT (s:St):List ByteArray->St×ByteArray
 |[n]=>if 0<=aV n then(⟨dM s.b (fF s.b (aV n)) (eR s.b (aV n)),s.t⟩,iK (cV s.b (aV n)))else(s,cX)
 |_=>(s,cX)
def mC (o:ByteArray)(h:Hx):ByteArray:=o++XW++h.n++⟨#[58]⟩++iG h.tl++⟨#[47]⟩++iG h.nl
def qD (b:Bk):ByteArray:=b.hl.foldl mC (dD b.now)
def tX (s:St):List ByteArray->St×ByteArray
 |[]=>(s,qD s.b)
 |_=>(s,cX)
open Classical in
noncomputable def nR (b:Bk)(nm:ByteArray)(t:List Bx)(most:Int):List Sp:=if∃l,eL b nm t most l then Classical.epsilon λl=>eL b nm t most l else[]
open Classical in
noncomputable def pN (b:Bk)(nm:ByteArray)(t:List Bx)(most:Int):Option Int:=if∃o,eA b nm t most o then Classical.epsilon λo=>eA b nm t most o else none
theorem AX {b:Bk}{nm:ByteArray}{t:List Bx}{a:Int}{l:List Sp}(h:eL b nm t a l):nR b nm t a=l:=by
 unfold nR;rw[if_pos ⟨l,h⟩];exact(Classical.epsilon_spec (p:=λl=>eL b nm t a l) ⟨l,h⟩).uniq h
theorem BQ {b:Bk}{nm:ByteArray}{t:List Bx}{a:Int}{o:Option Int}(h:eA b nm t a o):pN b nm t a=o:=by
 unfold pN;rw[if_pos ⟨o,h⟩];exact(Classical.epsilon_spec (p:=λo=>eA b nm t a o) ⟨o,h⟩).uniq h
theorem SS (b:Bk)(nm:ByteArray)(t:List Bx)(a:Int):eL b nm t a (nR b nm t a)∨nR b nm t a=[]:=by
 by_cases h:∃l,eL b nm t a l
 ·obtain⟨l,h⟩:=h;rw[AX h];exact .inl h
 ·exact .inr (if_neg h)
theorem TH (b:Bk)(nm:ByteArray)(t:List Bx)(a:Int):eA b nm t a (pN b nm t a)∨pN b nm t a=none:=by
 by_cases h:∃l,eA b nm t a l
 ·obtain⟨l,h⟩:=h;rw[BQ h];exact .inl h
 ·exact .inr (if_neg h)
def mJ (o:ByteArray)(p:Sp):ByteArray:=o++dD p.lo++UJ++dD p.hi++XW
def OL (s:ByteArray):Option Int->ByteArray
 |none=>s++⟨#[110,101,118,101,114]⟩
 |some d=>s++⟨#[102,114,101,101,32]⟩++dD d
noncomputable def mS (b:Bk)(nm:ByteArray)(t:List Bx)(most:Int):ByteArray:=OL ((nR b nm t most).foldl mJ ⟨#[]⟩) (pN b nm t most)
noncomputable def mY (s:St):List ByteArray->St×ByteArray
 |[nm,m]=>if 0<=aV m then(s,mS s.b nm s.t (aV m))else(s,cX)
 |_=>(s,cX)
abbrev pA:List UInt8:=[102,105,101,108,100]
abbrev vE:List UInt8:=[119,105,115,104]
abbrev FI:List UInt8:=[98,111,120]
abbrev oI:List UInt8:=[97,109,101,110,100]
abbrev uN:List UInt8:=[116,111,111,107]
abbrev FK:List UInt8:=[114,101,102,117,115,101,100]
abbrev tW:List UInt8:=[116,105,99,107]
abbrev tZ:List UInt8:=[104,101,108,100]
abbrev uR:List UInt8:=[98,97,114,115]
noncomputable def aX (s:St):List ByteArray->St×ByteArray
 |[]=>(s,cX)
 |n::a=>if n.toList=pA then fT s a else if n.toList=vE then jW s a else if n.toList=FI then uE s a else if n.toList=oI then pF s a else
  if n.toList=uN then nA true s a else if n.toList=FK then nA false s a else if n.toList=tW then lT s a else if n.toList=tZ then tX s a else if n.toList=uR then mY s a else(s,cX)
structure iP (k:Nat)(s:St):Prop where
 b:aN s.b=true
 t:s.t.length<=k
theorem iP.mono {k a:Nat}{s:St}(h:iP k s)(hk:k<=a):iP a s:=⟨h.b,by have:=h.t;omega⟩
theorem V7 {k:Nat}{s:St}(h:iP k s)(d:List ByteArray):iP (k+1) (aX s d).1:=by
 have a:iP (k+1) s:=h.mono (by omega);have ht:=h.t;unfold aX;split;·exact a
 ·split
  ·unfold fT;split
   ·split
    ·split;·rename_i c;exact⟨c,by show s.t.length<=_;omega⟩
     ·exact a
    ·exact a
   ·exact a
  ·split
   ·unfold jW;split
    ·split
     ·split;·exact⟨US _ h.b,by show s.t.length<=_;omega⟩
      ·exact a
     ·exact a
    ·exact a
   ·split
    ·unfold uE;split
     ·split;·exact⟨h.b,by show(s.t++[_]).length<=_;simp;omega⟩
      ·exact a
     ·exact a
    ·split
     ·unfold pF;split;·exact⟨SH _ _ h.b,by show([]:List Bx).length<=_;simp⟩
      ·exact a
     ·split
      ·unfold nA;split;·exact⟨D6 _ _ h.b,by show s.t.length<=_;omega⟩
       ·exact a
      ·split
       ·unfold nA;split;·exact⟨D6 _ _ h.b,by show s.t.length<=_;omega⟩
        ·exact a
       ·split
        ·unfold lT;split
         ·split;·exact⟨PR _ h.b,by show s.t.length<=_;omega⟩
          ·exact a
         ·exact a
        ·split
         ·unfold tX;split<;>exact a
         ·split
          ·unfold mY;split;·split<;>exact a
           ·exact a
          ·exact a
open Go.BigFrame
structure XH (w:World)(b:Bk):Prop where
 f:Xs 3 Fx.cells w b.fa b.fl
 h:Xs 3 Hx.cells w b.ha b.hl
 i:∀h∈b.hl,h.In w
structure dZ (S:Nat->Prop)(w:World)(s b:Bk):Prop where
 c:KE s.now s.fl s.hl b
 i:∀w',aT S w w'->XH w' b
 f1:b.fl.length<=b.fc
 f2:b.fc<=9223372036854775807
theorem dZ.but {S:Nat->Prop}{w w':World}{s b:Bk}(h:dZ S w s b)(d:aT S w w'):dZ S w' s b:=⟨h.c,λe a=>h.i e (d.trans a),h.f1,h.f2⟩
theorem dZ.zL {S:Nat->Prop}{w w':World}{s b:Bk}(h:dZ S w s b)(a:aF w w'):dZ S w' s b:=h.but (aT.below a)
theorem dZ.inn {S:Nat->Prop}{w:World}{s b:Bk}(h:dZ S w s b):XH w b:=h.i w (aT.refl _ _)
theorem dZ.book {S:Nat->Prop}{w:World}{s b:Bk}(h:dZ S w s b):aN b=aN s:=oX h.c.now h.c.fl h.c.lk
theorem BR {a:List Fx}{l:List Bx}(h:aQ a l=true):l.length<=40:=by
 simp only[aQ,bat]at h;have:=h.1;simp[n6]at this;omega
theorem uJ {b:Bk}(h:aN b=true):∀x∈b.hl,x.Fit/\x.tl.length<=40/\x.nl.length<=40/\x.n.size<=8/\(∀y∈x.tl,aK y=true)/\(∀y∈x.nl,aK y=true):=λx hx=>by
 obtain⟨_,_,_,c⟩:=eN.1 h;have e:=lat.1 (iT.1 c).1.1 x hx;have a:=(iT.1 c).2.1 x hx;have d:=qM a;simp only[cI,bat,Bool.or_eq_true]at a;simp only[cS,xF,bat,dte]at e;have f:=BR a.1
 have i:x.nl.length<=40:=by
  rcases a.2.2 with g|g;·rw[List.isEmpty_iff.1 g];simp
  ·exact BR g.1
 exact⟨⟨by omega,by omega,by omega⟩,f,i,e.1.2,lat.1 d.t,lat.1 d.n⟩
theorem EN {b:Bk}(h:aN b=true):b.fl.length<=4/\∀f∈b.fl,f.n.size<=8:=by
 obtain⟨_,a,_,_⟩:=eN.1 h;simp only[cB,bV,bat,dte]at a;refine⟨a.1,λf c=>?_⟩;have:=lat.1 a.2.1.1 f c;simp only[cS,xF,bat,dte]at this;exact this.1.2
theorem dZ.asks {S:Nat->Prop}{w:World}{s b:Bk}(h:dZ S w s b)(d:aN s=true):iW w b:=by
 have a:aN b=true:=h.book.trans d;obtain⟨f1,c⟩:=EN a;have:=lS a;exact⟨h.inn.f,by omega,h.f1,h.f2,λf e=>by have:=c f e;omega,h.inn.h,by omega,λx hx=>⟨h.inn.i x hx,(uJ a x hx).1⟩⟩
theorem dZ.ok {S:Nat->Prop}{w:World}{s b:Bk}(h:dZ S w s b)(c:aN s=true):BG b w:=λ_ a=>sK ((h.asks c).zL a) _ rfl
theorem HU {w:World}{z:Nat}{a:Option Addr}{n c:Nat}{l:List Bx}(h:aP w z (.slice a n c) l):∀x,a=some x->z<=x.block:=λx hx=>by
 rcases h with⟨e,_⟩|⟨g,cap,e,b,_⟩;·cases e;cases hx
 ·cases e;cases hx;exact b
theorem eF.stay {S:Nat->Prop}{z:Nat}{w:World}{b:Bk}(h:eF z w b)(c:∀k,S k->k<z):∀w',aT S w w'->XH w' b:=λw' d=>
 ⟨(h.f.but d c).xs Fx.cells_length,(h.h.but d c).xs Hx.cells_length,λx hx=>⟨((h.t x hx).t.but d (λa e g=>by have:=HU (h.t x hx).t a e;have:=c _ g;omega)).xs,((h.t x hx).n.but d (λa e g=>by have:=HU (h.t x hx).n a e;have:=c _ g;omega)).xs⟩⟩
theorem eF.at {S:Nat->Prop}{z:Nat}{w:World}{b s:Bk}(h:eF z w b)(l:∀k,S k->k<z)(m:KE s.now s.fl s.hl b):dZ S w s b:=
 ⟨m,h.stay l,by
  rcases h.f with⟨e,d⟩|⟨g,a,e,_,i,_⟩;·rw[d];exact nz _
  ·have j:b.fc=a:=by injection e
   rw[j];exact i,h.c _ _ _ rfl⟩
theorem gY.spS {z:Nat}{w:World}{b:Bk}(h:gY z w b):eF z w b:=⟨h.f,h.h,h.t,λa n c e=>by cases e;exact h.cf⟩
theorem DK {S S':Nat->Prop}{w:World}{s b:Bk}(h:dZ S w s b)(d:aN s=true)(nm:ByteArray)(took:Bool)(p:∀k,S' k->k<w.heap.size):
 aY 19 #[b.val,.string nm,.bool took] w λe w'=>(∃b',e=.returned (.tuple #[Bk.val b',.int .i64 (cJ s nm)])/\dZ S' w' (dM s s.now (dK s nm took)) b')/\aF w w':=by
 have ha:=h.asks d;refine(FO b nm took w (h.ok d) ha.hf ha.hnf ha.hh ha.hnh ha.hgood).mono ?_;rintro e w' ⟨o,f⟩;refine⟨?_,f⟩;obtain⟨l,m⟩:=xQ (b:=s) (b1:=b) h.c.lk nm took;rcases o with⟨a,_⟩|⟨_,b',rfl,g,i,j,n⟩;·rw[h.book,d]at a;cases a
 ·exact⟨b',by rw[l],n.at p ⟨g.trans h.c.now,i.trans h.c.fl,m.trans j⟩⟩
theorem RM {S S':Nat->Prop}{w:World}{s b:Bk}(r:j9 w)(h:dZ S w s b)(g:aN s=true)(nm:ByteArray)(took:Bool)(u:∀k,S' k->k<w.heap.size):
 aY 106 #[b.val,.string nm,.bool took] w λe w'=>(∃b',e=.returned (.tuple #[Bk.val b',.int .i64 (cJ s nm)])/\dZ S' w' (dM s s.now (dK s nm took)) b')/\aF w w':=by
 have ha:=h.asks g;refine(GH b nm took w r ha.hf ha.hnf ha.hcap ha.hc2 ha.hs ha.hh ha.hnh ha.hgood).mono ?_;rintro e w' ⟨q,d⟩;refine⟨?_,d⟩;obtain⟨o,p⟩:=xQ (b:=s) (b1:=b) h.c.lk nm took;rcases q with⟨a,_⟩|⟨a,b1,i,f,b'',c,v,⟨rfl,rfl⟩,rfl,t⟩;·rw[h.book,g]at a;cases a
 ·obtain⟨j,l,m,n⟩:=MJ (took:=took) a v;exact⟨_,by rw[j,o],t.spS.at u ⟨l.trans h.c.now,m.trans h.c.fl,p.trans n⟩⟩
theorem L8 {S S':Nat->Prop}{w:World}{s b:Bk}(h:dZ S w s b)(f:aN s=true)(nm:ByteArray)(a:List Bx)(ta:Option Addr)(i:Nat)(u:jJ w ta a)(t:a.length<=1048576)(r:∀k,S' k->k<w.heap.size):
 aY 18 #[b.val,.string nm,.slice ta a.length i] w λe w'=>(∃b',e=.returned (.tuple #[Bk.val b',.int .i64 (dX s nm a)])/\dZ S' w' (dM s s.now (fX s nm a)) b')/\aF w w':=by
 have ha:=h.asks f;refine(CS b nm a ta i w (h.ok f) (ha.with u t)).mono ?_;rintro e w' ⟨q,g⟩;refine⟨?_,g⟩;obtain⟨n,o⟩:=BI (b:=s) (b1:=b) h.c.now h.c.fl h.c.lk nm a;rcases q with⟨d,_⟩|⟨_,b',rfl,j,l,m,p⟩;·rw[h.book,f]at d;cases d
 ·exact⟨b',by rw[n],p.at r ⟨j.trans h.c.now,l.trans h.c.fl,o.trans m⟩⟩
theorem M6 {S S':Nat->Prop}{w:World}{s b:Bk}(u:j9 w)(h:dZ S w s b)(l:aN s=true)(nm:ByteArray)(d:List Bx)(ta:Option Addr)(m:Nat)(z:jJ w ta d)(y:d.length<=1048576)(x:∀k,S' k->k<w.heap.size):
 aY 64 #[b.val,.string nm,.slice ta d.length m] w λe w'=>(∃b',e=.returned (.tuple #[Bk.val b',.int .i64 (dX s nm d)])/\dZ S' w' (dM s s.now (fX s nm d)) b')/\aF w w':=by
 have ha:=h.asks l;refine(CI b nm d ta m w u ha.hf ha.hnf ha.hcap ha.hc2 ha.hs ha.hh ha.hnh ha.hgood z y).mono ?_;rintro e w' ⟨t,g⟩;refine⟨?_,g⟩;obtain⟨q,r⟩:=BI (b:=s) (b1:=b) h.c.now h.c.fl h.c.lk nm d;rcases t with⟨a,_⟩|⟨a,b1,i,f,b'',c,j,⟨rfl,n,o,p⟩,rfl,v⟩;·rw[h.book,l]at a;cases a
 ·obtain⟨A,B⟩:=OV d a j;exact⟨_,by rw[A,q],v.spS.at x ⟨(n.trans j.now).trans h.c.now,(o.trans j.fl).trans h.c.fl,(r.trans B).trans p⟩⟩
theorem PB {S S':Nat->Prop}{w:World}{s b:Bk}(h:dZ S w s b)(d:aN s=true)(n:Int)(r:∀k,S' k->k<w.heap.size):
 aY 20 #[b.val,.int .i64 n] w λe w'=>(∃b',e=.returned (.tuple #[Bk.val b',.int .i64 (cV s n)])/\dZ S' w' (dM s (fF s n) (eR s n)) b')/\aF w w':=by
 have ha:=h.asks d;refine(F2 b n w (h.ok d) ha.hf ha.hnf ha.hh ha.hnh ha.hgood).mono ?_;rintro e w' ⟨q,f⟩;refine⟨?_,f⟩;obtain⟨l,m,o⟩:=wL (b:=s) (b':=b) n h.c.now h.c.lk;rcases q with⟨a,_⟩|⟨_,b',rfl,g,i,j,p⟩;·rw[h.book,d]at a;cases a
 ·exact⟨b',by rw[l],p.at r ⟨g.trans m,i.trans h.c.fl,o.trans j⟩⟩
theorem PL {S S':Nat->Prop}{w:World}{s b:Bk}(q:j9 w)(h:dZ S w s b)(f:aN s=true)(n:Int)(t:∀k,S' k->k<w.heap.size):
 aY 66 #[b.val,.int .i64 n] w λe w'=>(∃b',e=.returned (.tuple #[Bk.val b',.int .i64 (cV s n)])/\dZ S' w' (dM s (fF s n) (eR s n)) b')/\aF w w':=by
 have ha:=h.asks f;refine(FP b n w q ha.hf ha.hnf ha.hcap ha.hc2 ha.hs ha.hh ha.hnh ha.hgood).mono ?_;rintro e w' ⟨⟨v,rfl,p⟩,d⟩;refine⟨?_,d⟩;obtain⟨l,m,o⟩:=wL (b:=s) (b':=b) n h.c.now h.c.lk;rcases p with⟨a,_⟩|⟨_,b',rfl,g,i,j,r⟩;·rw[h.book,f]at a;cases a
 ·exact⟨b',by rw[l],r.spS.at t ⟨g.trans m,i.trans h.c.fl,o.trans j⟩⟩
theorem rL {s b:Bk}(h:KE s.now s.fl s.hl b)(t:List Bx)(a:Int):dA b t a=dA s t a:=by
 rw[dA,dA,oX h.now h.fl h.lk,h.fl]
theorem yO {s b:Bk}(h:KE s.now s.fl s.hl b)(nm:ByteArray)(t:List Bx):kU b nm t=kU s nm t:=by
 funext d;unfold kU;rw[TK h.lk (F:=λx=>tC nm x.n=true/\(CG t x.tl d∨CG t x.nl d)) (λa b g=>by rw[g.n,g.t,g.x])]
theorem PO {S:Nat->Prop}{w:World}{s b:Bk}(h:dZ S w s b)(j:aN s=true)(nm:ByteArray)(d:List Bx)(ta:Option Addr)(i:Nat)(a:Int)(n:jJ w ta d)(k:d.length<=1048576):
 aY 50 #[b.val,.string nm,.slice ta d.length i,.int .i64 a] w λe w'=>(∃v,e=.returned v/\kW w' w.heap.size v (nR s nm d a)/\eL s nm d a (nR s nm d a))/\aF w w':=by
 refine(EO b nm d ta i a w ((h.asks j).with n k)).mono ?_;rintro e w' ⟨⟨v,l,rfl,m,g⟩,f⟩;unfold eL at g;rw[rL h.c,yO h.c]at g;have e:=AX (b:=s) g;exact⟨⟨v,rfl,by rw[e];exact m,by rw[e];exact g⟩,f⟩
theorem O9 {S:Nat->Prop}{w:World}{s b:Bk}(h:dZ S w s b)(j:aN s=true)(nm:ByteArray)(d:List Bx)(ta:Option Addr)(i:Nat)(a:Int)(n:jJ w ta d)(k:d.length<=1048576):
 aY 68 #[b.val,.string nm,.slice ta d.length i,.int .i64 a] w λe w'=>(∃v,e=.returned v/\kW w' w.heap.size v (nR s nm d a)/\eL s nm d a (nR s nm d a))/\aF w w':=by
 refine(FE b nm d ta i a w ((h.asks j).with n k)).mono ?_;rintro e w' ⟨⟨v,l,rfl,m,g⟩,f⟩;unfold eL at g;rw[rL h.c,yO h.c]at g;have e:=AX (b:=s) g;exact⟨⟨v,rfl,by rw[e];exact m,by rw[e];exact g⟩,f⟩
theorem PI {S:Nat->Prop}{w:World}{s b:Bk}(h:dZ S w s b)(j:aN s=true)(nm:ByteArray)(d:List Bx)(ta:Option Addr)(i:Nat)(a:Int)(l:jJ w ta d)(k:d.length<=1048576):
 aY 51 #[b.val,.string nm,.slice ta d.length i,.int .i64 a] w λe w'=>(e=.returned (dY (pN s nm d a))/\eA s nm d a (pN s nm d a))/\aF w w':=by
 refine(vP b nm d ta i a w ((h.asks j).with l k)).mono ?_;rintro e w' ⟨⟨o,rfl,g⟩,f⟩;unfold eA at g;rw[rL h.c,yO h.c]at g;have e:=BQ (b:=s) g;exact⟨⟨by rw[e],by rw[e];exact g⟩,f⟩
theorem OX {S:Nat->Prop}{w:World}{s b:Bk}(h:dZ S w s b)(j:aN s=true)(nm:ByteArray)(d:List Bx)(ta:Option Addr)(i:Nat)(a:Int)(l:jJ w ta d)(k:d.length<=1048576):
 aY 70 #[b.val,.string nm,.slice ta d.length i,.int .i64 a] w λe w'=>(e=.returned (dY (pN s nm d a))/\eA s nm d a (pN s nm d a))/\aF w w':=by
 refine(vW b nm d ta i a w ((h.asks j).with l k)).mono ?_;rintro e w' ⟨⟨o,rfl,g⟩,f⟩;unfold eA at g;rw[rL h.c,yO h.c]at g;have e:=BQ (b:=s) g;exact⟨⟨by rw[e],by rw[e];exact g⟩,f⟩
set_option maxRecDepth 100000
set_option maxHeartbeats 8000000
structure nU (D:Nat)(w:World)(s:St)(b:Bk)(ta:Option Addr)(tc:Nat):Prop where
 o:w.heap[D]?=some (.cells #[.int .i64 b.now,.slice b.fa b.fl.length b.fc,.slice b.ha b.hl.length b.hc,.slice ta s.t.length tc] 33)
 b:dZ (λk=>k=D) w s.b b
 t:∀w',aT (λk=>k=D) w w'->jJ w' ta s.t
theorem nU.zL {D:Nat}{w w':World}{s:St}{b:Bk}{ta:Option Addr}{c:Nat}(h:nU D w s b ta c)(a:aF w w'):nU D w' s b ta c:=
 ⟨bJ h.o a,h.b.zL a,λe d=>h.t e ((aT.below a).trans d)⟩
theorem nU.c {D:Nat}{w:World}{s:St}{b:Bk}{ta:Option Addr}{a:Nat}(h:nU D w s b ta a):w.cell? ⟨D,0,none⟩=some (.int .i64 b.now)/\w.cell? ⟨D,1,none⟩=some (.slice b.fa b.fl.length b.fc)/\w.cell? ⟨D,2,none⟩=some (.slice b.ha b.hl.length b.hc)/\w.cell? ⟨D,3,none⟩=some (.slice ta s.t.length a):=⟨aJ h.o rfl,aJ h.o rfl,aJ h.o rfl,aJ h.o rfl⟩
theorem nU.tb {D:Nat}{w:World}{s:St}{b:Bk}{ta:Option Addr}{a:Nat}(h:nU D w s b ta a):jJ w ta s.t:=h.t w (aT.refl _ _)
theorem QN (o:ByteArray)(p:Sp)(c:p.lo<=2000000)(d:p.hi<=2000000):(mJ o p).size<=o.size+4000004:=by
 have:=bG c;have:=bG d;have a:UJ.size=1:=rfl;have b:XW.size=1:=rfl;simp only[mJ,ByteArray.size_append,a,b];omega
theorem wK (l:List Sp)(h:∀p∈l,p.lo<=2000000/\p.hi<=2000000):∀o:ByteArray,(l.foldl mJ o).size<=o.size+l.length*4000004:=by
 induction l with
 |nil=>intro o;simp
 |cons p r ih=>
  intro o;obtain⟨a,b⟩:=h p (by simp);have:=ih (λq c=>h q (by simp[c])) (mJ o p);have:=QN o p a b;simp only[List.foldl_cons,llc];omega
theorem yG {s:Bk}{nm:ByteArray}{t:List Bx}{a:Int}{l:List Sp}(h:eL s nm t a l):∀p∈l,0<=p.lo/\p.lo<=2000000/\0<=p.hi/\p.hi<=2000000:=λp d=>by
 cases e:dA s t a with
 |false=>rw[h.2 e]at d;cases d
 |true=>
  have hm:a<=300:=by
   simp only[dA,bat,dte]at e;exact e.1.2
  obtain⟨f,_⟩:=h.1 e;have h1:=f.b p d;have h2:=f.c.ne p d;omega
theorem EV {s:Bk}{nm:ByteArray}{t:List Bx}{a d:Int}(h:eA s nm t a (some d)):0<=d/\d<=2000000:=by
 cases e:dA s t a with
 |false=>have:=h.2 e;cases this
 |true=>
  have hm:a<=300:=by
   simp only[dA,bat,dte]at e;exact e.1.2
  have:=h.1 e;exact⟨this.1,by have:=this.2.1;omega⟩
def ZX (D:Nat)(b:Bk)(nm:ByteArray)(tv:Value)(most:Int)(j:Nat)(v:Value)(_w:World):Prop:=
 match j with
 |0|1|5|6=>v=.pointer (some ⟨D,0,none⟩)
 |2=>v=.pointer (some ⟨D,0,none⟩)
 |3=>v=b.val
 |4=>v=.string nm
 |7=>v=.pointer (some ⟨D,3,none⟩)
 |8=>v=tv
 |9=>v=.int .i64 most
 |_=>True
def XT (D:Nat)(b:Bk)(nm:ByteArray)(tv:Value)(most:Int)(o:Option Int)(E:Prop)(j:Nat)(v:Value)(_w:World):Prop:=
 match j with
 |0|1|5|6=>v=.pointer (some ⟨D,0,none⟩)
 |2=>v=.pointer (some ⟨D,0,none⟩)
 |3=>v=b.val
 |4=>v=.string nm
 |7=>v=.pointer (some ⟨D,3,none⟩)
 |8=>v=tv
 |9=>v=.int .i64 most
 |10=>v=.tuple #[.int .i64 (o.getD 0),.bool o.isSome]/\E
 |11=>v=.tuple #[.int .i64 (o.getD 0),.bool o.isSome]
 |12|14=>v=.int .i64 (o.getD 0)
 |13=>v=.bool o.isSome
 |_=>True
def ZD (g off n cap k:Nat)(p:Sp)(s0 s1 s2 s3 s4 s5 s6:ByteArray)(j:Nat)(v:Value)(_w:World):Prop:=
 match j with
 |0=>v=.string s0
 |1|9=>v=.slice (some ⟨g,off,none⟩) n cap
 |2|10=>v=.int .i64 (k:Int)
 |3|4|11=>v=.pointer (some ⟨g,off+k*2,none⟩)
 |5=>v=.int .i64 p.lo
 |6=>v=.string s1
 |7=>v=.string s2
 |8=>v=.string s3
 |12=>v=.pointer (some ⟨g,off+k*2+1,none⟩)
 |13=>v=.int .i64 p.hi
 |14=>v=.string s4
 |15=>v=.string s5
 |16=>v=.string s6
 |_=>True
theorem I5 (o:Option Int):dY o=.tuple #[.int .i64 (o.getD 0),.bool o.isSome]:=by cases o<;>rfl
theorem RL (D:Nat)(w:World)(s:St)(b:Bk)(ta:Option Addr)(S k:Nat)(nm:ByteArray)(a:Int)(H:nU D w s b ta S)(F:iP k s)(hk:k<=1048576):
 aY 23 #[.pointer (some ⟨D,0,none⟩),.string nm,.int .i64 a] w λe w'=>e=.returned (.string (mS s.b nm s.t a))/\aF w w':=by
 go_enter Tryz.func23,Tryz.ntmps23
 go_upto_region 2 with fail
 refine pG 10 [some 12,some 13,some 14,some 15,some 16,some 17,some 18,some 19,some 20,some 21] (ZX D b nm (.slice ta s.t.length S) a) (λ_ _ _ _ h _=>h) ?step ?fin
 case step=>
  intro ii o i w' B l n j;obtain⟨zj,zk,zo,zp⟩:=(H.zL n).c
  match ii,B with
  |1,_|2,_|3,_|6,_|7,_|8,_=>
   simp at l;subst l
   simp[Region.binds,ZX]at j
   simp only[aE,Act.put,j];gi_wp2;exact⟨_,by simp[aH,j],rfl,br _ _⟩
  |0,_|4,_|5,_|9,_=>
   simp at l;subst l;simp only[aE,Act.put];gi_wp2;exact⟨_,by simp[aH],rfl,br _ _⟩
  |q+10,h=>exact absurd h (by omega)
 case fin=>
  intro i w8 n f;have K:i 3=b.val:=f 3 (by decide);have M:i 4=.string nm:=f 4 (by decide);have e8:i 8=.slice ta s.t.length S:=f 8 (by decide);have e9:i 9=.int .i64 a:=f 9 (by decide);have E:Hid _:=H.zL n;have r:=aG n;clear f n H;simp only[lds,List.drop_zero,aE,Act.put];rw[K,M,e8,e9];clear K M e8 e9;generalize i=i;gi_wp2_with fail
  refine⟨trivial,rfl,?_⟩;refine(cw.2 (PO E.oQ.b F.b nm s.t ta S a E.oQ.tb (by have:=F.t;omega))).mono ?_;rintro e w9 ⟨⟨v,rfl,hO,hI⟩,u⟩;obtain⟨L,hL⟩:=bP (nR s.b nm s.t a);rw[←hL]at hO hI;have HL:=aG hL;have Q:=yG hI;have hl3:=hI.len;clear hL hI;obtain⟨ao,cp,rfl⟩:=bQ.slice hO;have Y:Hid (Xs 2 Sp.cells w9 ao L):=bQ.xs (c:=Sp.cells) (sz:=2) (t:=98) (λ_=>rfl) hO;have C:=aG (aC r.oQ u);have X:Hid _:=E.oQ.zL u;clear hO u E r;gi_wp2_with fail
  go_wp2
  obtain⟨W9,hW9⟩:=bP w9
  go_loopw [7,9] (λov iv wr=>∃k:Nat,k<=L.length/\ov=.string ((L.take k).foldl mJ ⟨#[]⟩)/\iv=.int .i64 k/\aF w9 wr) (λ_ iv _=>L.length-(intOf iv).toNat)
  case atStart=>exact⟨0,nz _,rfl,rfl,br _ _⟩
  case round=>
   obtain⟨k,hk,rfl,rfl,T⟩:=hrel;have G:=wK (L.take k) (λp f=>⟨(Q p (List.mem_of_mem_take f)).2.1,(Q p (List.mem_of_mem_take f)).2.2.2⟩) ⟨#[]⟩;have I:(L.take k).length<=301:=by rw[List.length_take];omega
   have zi:(ByteArray.mk #[]).size=0:=rfl
   by_cases x:k<L.length
   ·have zb:(k:Int)<(L.length:Int):=by omega
    rcases Y.oQ.zL T with h|⟨g,R,zl,P⟩
    ·rw[h]at x;simp at x
    subst zl;have k0:wr.cell? ⟨g,R+k*2,none⟩=some (.int .i64 L[k].lo):=P k x 0 _ rfl;have k1:wr.cell? ⟨g,R+k*2+1,none⟩=some (.int .i64 L[k].hi):=P k x 1 _ rfl;obtain⟨zd,ze,zf,zg⟩:=Q _ (lgm x);have m:(L.take (k+1)).foldl mJ ⟨#[]⟩=mJ ((L.take k).foldl mJ ⟨#[]⟩) L[k]:=by rw[List.take_succ_eq_append_getElem x,List.foldl_append];rfl
    obtain⟨s0,zh⟩:∃s,s=(L.take k).foldl mJ ⟨#[]⟩:=⟨_,rfl⟩;obtain⟨p,f⟩:=bP (L[k]);rw[←zh]at m G ⊢;rw[←f]at m k0 k1 zd ze zf zg;clear zh f P;obtain⟨U,e1⟩:∃s,s=dD p.lo:=⟨_,rfl⟩;obtain⟨s2,e2⟩:∃s,s=s0++U:=⟨_,rfl⟩;obtain⟨s3,K⟩:∃s,s=s2++⟨#[45]⟩:=⟨_,rfl⟩;obtain⟨V,M⟩:∃s,s=dD p.hi:=⟨_,rfl⟩;obtain⟨s5,e5⟩:∃s,s=s3++V:=⟨_,rfl⟩;obtain⟨s6,e6⟩:∃s,s=s5++⟨#[32]⟩:=⟨_,rfl⟩;have z1:U.size<=2000001:=by rw[e1];exact bG ze
    have z2:s2.size=s0.size+U.size:=by rw[e2,ByteArray.size_append]
    have z3:s3.size=s2.size+1:=by rw[K,ByteArray.size_append];rfl
    have z4:V.size<=2000001:=by rw[M];exact bG zg
    have z5:s5.size=s3.size+V.size:=by rw[e5,ByteArray.size_append]
    have g2:¬9223372036854775807<s0.size+U.size:=by omega
    have g3:¬9223372036854775807<s2.size+1:=by omega
    have g5:¬9223372036854775807<s3.size+V.size:=by omega
    have g6:¬9223372036854775807<s5.size+1:=by omega
    have HT:Hid ((L.take (k+1)).foldl mJ ⟨#[]⟩=s6):=by rw[Hid,m,mJ,←e1,←M];show s0++U++⟨#[45]⟩++V++⟨#[32]⟩=s6;rw[←e2,←K,←e5,←e6]
    have E1:Hid _:=e1;have E4:Hid _:=M;have e2':=e2.symm;have e3':=K.symm;have e5':=e5.symm;have e6':=e6.symm;clear z1 z2 z3 z4 z5 e1 e2 K M e5 e6 m G I zi
    go_upto_region 6 with fail
    refine pG 17 [some 29,some 30,some 31,some 32,some 33,some 34,some 35,some 36,some 37,some 38,some 39,some 40,some 41,some 42,some 43,some 44,some 45] (ZD g R L.length cp k p s0 U s2 s3 V s5 s6) (λ_ _ _ _ h _=>h) ?step ?fin
    case step=>
     intro ii o i w' B l n j;have zj:=(n.cell (aA k0)).trans k0;have zk:=(n.cell (aA k1)).trans k1
     match ii,B with
     |3,_|4,_|5,_|7,_|8,_|11,_|12,_|13,_|15,_|16,_=>
      simp at l;subst l
      simp[Region.binds,ZD]at j
      simp only[aE,Act.put,j];gi_wp2;exact⟨_,by simp[aH,j],rfl,br _ _⟩
     |0,_|1,_|2,_|9,_|10,_=>
      simp at l;subst l;simp only[aE,Act.put];gi_wp2;exact⟨_,by simp[aH],rfl,br _ _⟩
     |6,_=>
      simp at l;subst l
      simp[Region.binds,ZD]at j
      simp only[aE,Act.put,j];gi_wp2_with fail
      refine⟨trivial,rfl,?_⟩;refine(cw.2 (mR p.lo w' zd (by omega))).mono ?_;rintro e w5 ⟨rfl,A⟩;rw[←E1.out];gi_wp2;exact⟨_,by simp[aH,j],rfl,A⟩
     |14,_=>
      simp at l;subst l
      simp[Region.binds,ZD]at j
      simp only[aE,Act.put,j];gi_wp2_with fail
      refine⟨trivial,rfl,?_⟩;refine(cw.2 (mR p.hi w' zf (by omega))).mono ?_;rintro e w5 ⟨rfl,A⟩;rw[←E4.out];gi_wp2;exact⟨_,by simp[aH,j],rfl,A⟩
     |q+17,h=>exact absurd h (by omega)
    case fin=>
     intro i w8 n f;have Z:i 16=.string s6:=f 16 (by decide);have r:=aG n;clear f n;simp only[lds,List.drop_zero,aE,Act.put];rw[Z];clear Z;generalize i=i;gi_wp2_with fail
     go_wp2
     go_roundw
     case rel=>exact⟨k+1,by omega,by rw[HT.oQ],by go_num,aC T r.oQ⟩
     case measure=>simp[intOf];omega
   ·have zb:¬(k:Int)<(L.length:Int):=by omega
    have za:L.take k=L:=ltl (by omega);rw[za]at G I ⊢;clear za;obtain⟨O,N⟩:=bP (L.foldl mJ ⟨#[]⟩);rw[←N]at G ⊢;have W:=aG N;clear N;have H:nU D wr s b ta S:=X.oQ.zL T;obtain⟨o,zc⟩:=bP (pN s.b nm s.t a);have HO:=aG zc;clear zc Y
    replace T:aF w wr:=aC C.oQ T
    clear X C
    go_upto_region 7 with fail
    refine pG 15 [some 47,some 48,some 49,some 50,some 51,some 52,some 53,some 54,some 55,some 56,some 57,some 46,some 58,some 59,some 10] (XT D b nm (.slice ta s.t.length S) a o (eA s.b nm s.t a o)) (λ_ _ _ _ h _=>h) ?step ?fin
    case step=>
     intro ii o i w' B l n j;obtain⟨zj,zk,zo,zp⟩:=(H.zL n).c
     match ii,B with
     |1,_|2,_|3,_|6,_|7,_|8,_|11,_|12,_|13,_|14,_=>
      simp at l;subst l
      simp[Region.binds,XT]at j
      simp only[aE,Act.put,j];gi_wp2;exact⟨_,by simp[aH,j],rfl,br _ _⟩
     |0,_|4,_|5,_|9,_=>
      simp at l;subst l;simp only[aE,Act.put];gi_wp2;exact⟨_,by simp[aH],rfl,br _ _⟩
     |10,_=>
      simp at l;subst l
      simp[Region.binds,XT]at j
      simp only[aE,Act.put,j];gi_wp2_with fail
      refine⟨trivial,rfl,?_⟩;refine(cw.2 (PI (H.zL n).b F.b nm s.t ta S a (H.zL n).tb (by have:=F.t;omega))).mono ?_;rintro e w5 ⟨⟨rfl,hE⟩,A⟩;rw[←HO.oQ]at hE;rw[←HO.oQ,I5];have HE:=aG hE;clear hE;gi_wp2;exact⟨_,by simp[aH,j],⟨rfl,HE.oQ⟩,A⟩
     |q+15,h=>exact absurd h (by omega)
    case fin=>
     intro i w8 n f;have HE:Hid (eA s.b nm s.t a o):=(f 10 (by decide)).2;have r:=aG (aC T n);clear n H
     cases o with
     |none=>
      have y:i 13=.bool false:=f 13 (by decide);have z:i 14=.int .i64 0:=f 14 (by decide);clear f;simp only[lds,List.drop_zero,aE,Act.put];rw[y,z];clear y z;generalize i=i;have J:Hid (mS s.b nm s.t a=O++⟨#[110,101,118,101,114]⟩):=by rw[Hid,mS,←HO.oQ,←HL.oQ,←W.oQ];rfl
      have g1:¬9223372036854775807<O.size+5:=by omega
      gi_wp2_with fail
      go_wp2
      go_ret;exact⟨by rw[J.oQ];rfl,r.oQ⟩
     |some d=>
      have y:i 13=.bool true:=f 13 (by decide);have z:i 14=.int .i64 d:=f 14 (by decide);clear f;simp only[lds,List.drop_zero,aE,Act.put];rw[y,z];clear y z;generalize i=i;obtain⟨zm,zn⟩:=EV HE.oQ;have J:Hid (mS s.b nm s.t a=O++⟨#[102,114,101,101,32]⟩++dD d):=by rw[Hid,mS,←HO.oQ,←HL.oQ,←W.oQ];rfl
      have g1:¬9223372036854775807<O.size+5:=by omega
      have hds:=bG zn;have g2:¬9223372036854775807<O.size+5+(dD d).size:=by omega
      gi_wp2_with fail
      go_wp2_with fail
      refine(mR d w8 zm (by omega)).mono ?_;rintro e w9 ⟨rfl,u⟩;have C:=aG (aC r.oQ u);clear u;go_wp2
      go_ret;exact⟨by rw[J.oQ];rfl,C.oQ⟩
theorem lN {l:List Bx}(hn:l.length<=40)(h:∀b∈l,b.i<=2000000/\b.o<=2000000):(iG l).size<=6000005:=by
 cases l with
 |nil=>show(⟨#[45]⟩:ByteArray).size<=_;decide
 |cons b r=>
  have h1:=bG (n:=((b::r).length:Int)) (by omega);have h2:=bG (h b (by simp)).1;have h3:=bG (h _ (List.getLast_mem (l:=b::r) (by simp))).2;have a:(⟨#[64]⟩:ByteArray).size=1:=rfl;have c:(⟨#[45]⟩:ByteArray).size=1:=rfl;simp only[iG,ByteArray.size_append,a,c];omega
theorem qW {l:List Bx}(h:∀y∈l,aK y=true):∀b∈l,0<=b.i/\b.i<=2000000/\0<=b.o/\b.o<=2000000:=λb a=>by
 have:=h b a;simp only[aK,dte]at this;omega
theorem oD {l:List Bx}(h:∀y∈l,aK y=true):∀b∈l,b.i<=2000000/\b.o<=2000000:=λb a=>⟨(qW h b a).2.1,(qW h b a).2.2.2⟩
theorem LN (o:ByteArray){h:Hx}(h1:(iG h.tl).size<=6000005)(h2:(iG h.nl).size<=6000005)(h3:h.n.size<=8):(mC o h).size<=o.size+12000021:=by
 have a:XW.size=1:=rfl;have b:(⟨#[58]⟩:ByteArray).size=1:=rfl;have c:(⟨#[47]⟩:ByteArray).size=1:=rfl;simp only[mC,ByteArray.size_append,a,b,c];omega
theorem zR (l:List Hx)(h:∀x∈l,(iG x.tl).size<=6000005/\(iG x.nl).size<=6000005/\x.n.size<=8):∀o:ByteArray,(l.foldl mC o).size<=o.size+l.length*12000021:=by
 induction l with
 |nil=>intro o;simp
 |cons p r ih=>
  intro o;obtain⟨a,b,c⟩:=h p (by simp);have:=ih (λq d=>h q (by simp[d])) (mC o p);have:=LN o a b c;simp only[List.foldl_cons,llc];omega
theorem zY {s b:Bk}(h:KE s.now s.fl s.hl b):qD b=qD s:=by
 have e:∀(l:List Hx) (o:ByteArray),l.foldl mC o=(l.map (λx=>(x.n,x.tl,x.nl))).foldl (λo k=>o++XW++k.1++⟨#[58]⟩++iG k.2.1++⟨#[47]⟩++iG k.2.2) o:=λl o=>by rw[List.foldl_map];rfl
 unfold qD;rw[e,e,h.now,h.lk.map (λx=>(x.n,x.tl,x.nl)) (λa b g=>by simp[g.n,g.t,g.x])]
def ZC (H:Nat)(x:Hx)(s0 s1 s2 s3 s4 s5 s6 s7 s8:ByteArray)(j:Nat)(v:Value)(_w:World):Prop:=
 match j with
 |0=>v=.string s0
 |1=>v=.string s1
 |2=>v=.pointer (some ⟨H,0,none⟩)
 |3=>v=.string x.n
 |4=>v=.string s2
 |5=>v=.string s3
 |6=>v=.pointer (some ⟨H,1,none⟩)
 |7=>v=.slice x.ta x.tl.length x.tc
 |8=>v=.string s4
 |9=>v=.string s5
 |10=>v=.string s6
 |11=>v=.pointer (some ⟨H,2,none⟩)
 |12=>v=.slice x.na x.nl.length x.nc
 |13=>v=.string s7
 |14=>v=.string s8
 |_=>True
theorem QO (D:Nat)(w:World)(s:St)(b:Bk)(ta:Option Addr)(tc k:Nat)(O:nU D w s b ta tc)(zo:iP k s):
 aY 21 #[.pointer (some ⟨D,0,none⟩)] w λe w'=>e=.returned (.string (qD s.b))/\aF w w':=by
 have F:aN b=true:=O.b.book.trans zo.b;have I:=uJ F;have h16:=lS F
 have Z:0<=b.now/\b.now<=10000:=by
  have:=(eN.1 F).1
  rwa[nT,dte]at this
 have m:∀x∈b.hl,(iG x.tl).size<=6000005/\(iG x.nl).size<=6000005/\x.n.size<=8:=λx hx=>by
  obtain⟨_,h1,h2,h3,h4,h5⟩:=I x hx;exact⟨lN h1 (oD h4),lN h2 (oD h5),h3⟩
 have zi:=aG (zY O.b.c);obtain⟨c0,c1,c2,c3⟩:=O.c;clear F
 go_enter Tryz.func21,Tryz.ntmps21
 go_wp2_with fail
 refine(mR b.now w Z.1 (by omega)).mono ?_;rintro e w1 ⟨rfl,f⟩;have hdn:=bG (n:=b.now) (by omega)
 replace O:=O.zL f
 have zf:=aG f;clear f c0 c1 c2 c3;go_wp2
 go_loopw [3,4] (λov iv wr=>∃k:Nat,k<=b.hl.length/\ov=.string ((b.hl.take k).foldl mC (dD b.now))/\iv=.int .i64 k/\aF w wr/\aF w1 wr) (λ_ iv _=>b.hl.length-(intOf iv).toNat)
 case atStart=>exact⟨0,nz _,rfl,rfl,zf.oQ,br _ _⟩
 case round=>
  obtain⟨k,hk,rfl,rfl,hN,T⟩:=hrel;have N:=zR (b.hl.take k) (λp hp=>m p (List.mem_of_mem_take hp)) (dD b.now);have K:(b.hl.take k).length<=16:=by rw[List.length_take];omega
  have L:=O.zL T;obtain⟨c0,c1,c2,c3⟩:=L.c
  by_cases d:k<b.hl.length
  ·have Y:(k:Int)<(b.hl.length:Int):=by omega
   have l:=L.b.inn
   rcases l.h with h|⟨g,off,zj,W⟩
   ·rw[h]at d;simp at d
   rw[zj]at c2;obtain⟨q0,q1,q2⟩:=iI (W k d);obtain⟨_,zl,zm,zn,f,V⟩:=I _ (lgm d);obtain⟨zb,zc,_⟩:=m _ (lgm d);have j:=l.i _ (lgm d);have a:(b.hl.take (k+1)).foldl mC (dD b.now)=mC ((b.hl.take k).foldl mC (dD b.now)) b.hl[k]:=by rw[List.take_succ_eq_append_getElem d,List.foldl_append];rfl
   obtain⟨s0,za⟩:∃s,s=(b.hl.take k).foldl mC (dD b.now):=⟨_,rfl⟩;obtain⟨x,hx⟩:=bP (b.hl[k]);rw[←za]at a N ⊢;rw[←hx]at a q0 q1 q2 zl zm zn f V zb zc j;clear za hx W l L;obtain⟨s1,r⟩:∃s,s=s0++(⟨#[32]⟩:ByteArray):=⟨_,rfl⟩;obtain⟨s2,t⟩:∃s,s=s1++x.n:=⟨_,rfl⟩;obtain⟨s3,u⟩:∃s,s=s2++(⟨#[58]⟩:ByteArray):=⟨_,rfl⟩;obtain⟨P,v⟩:∃s,s=iG x.tl:=⟨_,rfl⟩;obtain⟨s5,y⟩:∃s,s=s3++P:=⟨_,rfl⟩;obtain⟨s6,z⟩:∃s,s=s5++(⟨#[47]⟩:ByteArray):=⟨_,rfl⟩;obtain⟨Q,A⟩:∃s,s=iG x.nl:=⟨_,rfl⟩;obtain⟨s8,B⟩:∃s,s=s6++Q:=⟨_,rfl⟩;have zp:s1.size=s0.size+1:=by rw[r,ByteArray.size_append];rfl
   have zq:s2.size=s1.size+x.n.size:=by rw[t,ByteArray.size_append]
   have zr:s3.size=s2.size+1:=by rw[u,ByteArray.size_append];rfl
   have zs:P.size<=6000005:=by rw[v];exact zb
   have zt:s5.size=s3.size+P.size:=by rw[y,ByteArray.size_append]
   have zu:s6.size=s5.size+1:=by rw[z,ByteArray.size_append];rfl
   have zv:Q.size<=6000005:=by rw[A];exact zc
   have zw:s8.size=s6.size+Q.size:=by rw[B,ByteArray.size_append]
   have gs1:¬9223372036854775807<s0.size+1:=by omega
   have gs2:¬9223372036854775807<s1.size+x.n.size:=by omega
   have gs3:¬9223372036854775807<s2.size+1:=by omega
   have gs5:¬9223372036854775807<s3.size+P.size:=by omega
   have gs6:¬9223372036854775807<s5.size+1:=by omega
   have gs8:¬9223372036854775807<s6.size+Q.size:=by omega
   have HT:Hid ((b.hl.take (k+1)).foldl mC (dD b.now)=s8):=by rw[Hid,a,mC,←v,←A];show s0++⟨#[32]⟩++x.n++⟨#[58]⟩++P++⟨#[47]⟩++Q=s8;rw[←r,←t,←u,←y,←z,←B]
   have fs1:=r.symm;have fs2:=t.symm;have fs3:=u.symm;have zd:=aG v;have fs5:=y.symm;have fs6:=z.symm;have ze:=aG A;have fs8:=B.symm;clear r zp t zq u zr v zs y zt z zu A zv B zw a N K;have k0:(wr.alloc (.cells #[.string x.n,.slice x.ta x.tl.length x.tc,.slice x.na x.nl.length x.nc] 90)).cell? ⟨wr.heap.size,0,none⟩=some (.string x.n):=aJ (wnq wr _) rfl;have k1:(wr.alloc (.cells #[.string x.n,.slice x.ta x.tl.length x.tc,.slice x.na x.nl.length x.nc] 90)).cell? ⟨wr.heap.size,1,none⟩=some (.slice x.ta x.tl.length x.tc):=aJ (wnq wr _) rfl;have k2:(wr.alloc (.cells #[.string x.n,.slice x.ta x.tl.length x.tc,.slice x.na x.nl.length x.nc] 90)).cell? ⟨wr.heap.size,2,none⟩=some (.slice x.na x.nl.length x.nc):=aJ (wnq wr _) rfl;have E:aF wr (wr.alloc (.cells #[.string x.n,.slice x.ta x.tl.length x.tc,.slice x.na x.nl.length x.nc] 90)):=aB (br _ _) _;have R:=aG (aC hN E);have H:=aG (aC T E)
   replace j:=Hx.In.zL j E
   clear E
   go_upto_region 6 with fail
   obtain⟨W1,U⟩:=cK (wr.alloc (.cells #[.string x.n,.slice x.ta x.tl.length x.tc,.slice x.na x.nl.length x.nc] 90));rw[U]at k0 k1 k2 R H j ⊢;clear U q0 q1 q2 c0 c1 c2 c3;refine pG 15 [some 30,some 31,some 32,some 33,some 34,some 35,some 36,some 37,some 38,some 39,some 40,some 41,some 42,some 43,some 44] (ZC wr.heap.size x s0 s1 s2 s3 P s5 s6 Q s8) (λ_ _ _ _ h _=>h) ?step ?fin
   case step=>
    intro ii o vs w' zk J C G;have z0z:=(C.cell (aA k0)).trans k0;have z1z:=(C.cell (aA k1)).trans k1;have z2z:=(C.cell (aA k2)).trans k2
    match ii,zk with
    |1,_|3,_|4,_|5,_|7,_|9,_|10,_|12,_|14,_=>
     simp at J;subst J
     simp[Region.binds,ZC]at G
     simp only[aE,Act.put,G];gi_wp2;exact⟨_,by simp[aH,G],rfl,br _ _⟩
    |0,_|2,_|6,_|11,_=>
     simp at J;subst J;simp only[aE,Act.put];gi_wp2;exact⟨_,by simp[aH],rfl,br _ _⟩
    |8,_=>
     simp at J;subst J
     simp[Region.binds,ZC]at G
     simp only[aE,Act.put,G];gi_wp2_with fail
     refine⟨trivial,rfl,?_⟩;refine(cw.2 (BJ x.tl x.ta x.tc w' (j.1.zL C) (by omega) (qW f))).mono ?_;rintro e w5 ⟨rfl,M⟩;rw[←zd.out];gi_wp2;exact⟨_,by simp[aH,G],rfl,M⟩
    |13,_=>
     simp at J;subst J
     simp[Region.binds,ZC]at G
     simp only[aE,Act.put,G];gi_wp2_with fail
     refine⟨trivial,rfl,?_⟩;refine(cw.2 (BJ x.nl x.na x.nc w' (j.2.zL C) (by omega) (qW V))).mono ?_;rintro e w5 ⟨rfl,M⟩;rw[←ze.out];gi_wp2;exact⟨_,by simp[aH,G],rfl,M⟩
    |q+15,h=>exact absurd h (by omega)
   case fin=>
    intro vs w8 C hp;have S:vs 14=.string s8:=hp 14 (by decide);have zg:=aG (aC R.oQ C);have zh:=aG (aC H.oQ C);clear hp C;simp only[lds,List.drop_zero,aE,Act.put];rw[S];clear S;generalize vs=vs;gi_wp2_with fail
    go_wp2
    go_roundw
    case rel=>exact⟨k+1,by omega,by rw[HT.oQ],by go_num,zg.oQ,zh.oQ⟩
    case measure=>simp[intOf];omega
  ·have Y:¬(k:Int)<(b.hl.length:Int):=by omega
   have X:b.hl.take k=b.hl:=ltl (by omega);rw[X];clear X N K;go_wp2
   go_ret;exact⟨by rw[←zi.oQ];rfl,hN⟩
theorem eF.butT {z P t:Nat}{w w':World}{b:Bk}{l:Array Value}(h:eF z w b)(g:aT (λk=>k=P) w w')(s:w.heap[P]?=some (.cells l t))(m:74≠t)(o:90≠t)(p:56≠t):eF z w' b:=by
 have i:∀{t' n:Nat} {f:Nat->Value},t'≠t->w.rowIs P t' n f->False:=λv d=>by
  obtain⟨c,j,_⟩:=d;rw[s]at j;cases j;exact v rfl
 refine⟨h.f.butRow g (λk _ _ _ d e=>by have a:k=P:=e;subst a;exact i m d),h.h.butRow g (λk _ _ _ d e=>by have a:k=P:=e;subst a;exact i o d),λx hx=>(h.t x hx).but g (λq u e=>?_),h.c⟩;have a:q=P:=e;subst a;obtain⟨_,_,r⟩:=(h.t x hx).bs_row q u;exact i p r
theorem PP {S:Nat->Prop}{w:World}{s b:Bk}{x d:Wx}(h:dZ S w s b)(f:aN s=true)(hx:iL w d)(p:qK x d):
 aY 40 #[b.val,d.val] w λe w'=>(∃b',e=.returned (.tuple #[Bk.val b',gX s (decide (0<=j8 s.hl x.n)) x,.int .i64 (dL s x)])/\KE s.now s.fl (eU s x) b'/\eF w.heap.size w' b')/\aF w w':=by
 refine(FV b d w (h.ok f) (h.asks f) hx).mono ?_;rintro e w' ⟨o,g⟩;refine⟨?_,g⟩;obtain⟨q,r,i⟩:=DX (b:=s) (b1:=b) h.c.now h.c.fl h.c.lk d;obtain⟨t,u,v⟩:=C9 p s;rcases o with⟨a,_⟩|⟨_,b',rfl,j,k,l,m⟩;·rw[h.book,f]at a;cases a
 ·exact⟨b',by rw[q,r,t,u],⟨j.trans h.c.now,k.trans h.c.fl,by rw[v]at i;exact i.trans l⟩,m⟩
abbrev f8 (w:World)(D:Nat)(b:Bk):World:=((w.setCell ⟨D,0,none⟩ (.int .i64 b.now)).setCell ⟨D,1,none⟩ (.slice b.fa b.fl.length b.fc)).setCell ⟨D,2,none⟩ (.slice b.ha b.hl.length b.hc)
theorem dC (w:World)(D:Nat)(b:Bk):aT (λk=>k=D) w (f8 w D b):=(((aT.refl (λk=>k=D) w).set (g:=D) rfl _ _).set (g:=D) rfl _ _).set (g:=D) rfl _ _
theorem nU.put {D:Nat}{w:World}{s:St}{b:Bk}{ta:Option Addr}{d:Nat}(h:nU D w s b ta d){c b':Bk}(a:dZ (λk=>k=D) w c b'):nU D (f8 w D b') ⟨c,s.t⟩ b' ta d:=by
 refine⟨?_,a.but (dC w D b'),λj e=>h.t j ((dC w D b').trans e)⟩;have f:=aO h.o 0 (.int .i64 b'.now);have g:=aO f 1 (.slice b'.fa b'.fl.length b'.fc);have i:=aO g 2 (.slice b'.ha b'.hl.length b'.hc);exact i
def OP (D:Nat)(w:World)(r:St×ByteArray)(e:Ending)(w':World):Prop:=(∃b ta tc,nU D w' r.1 b ta tc)/\e=.returned (.string r.2)/\aT (λk=>k=D) w w'
theorem nU.fz {D:Nat}{w:World}{s:St}{b:Bk}{ta:Option Addr}{a:Nat}(h:nU D w s b ta a):∀i,w.frozen? ⟨D,i,none⟩=false:=λi=>by simp[World.frozen?,h.o]
theorem rQ (D:Nat)(w:World)(s:St)(b:Bk)(ta:Option Addr)(q:Nat)(p:nU D w s b ta q)(m b':Bk)(l:dZ (λk=>k=D) w m b')(c:Int)(n:0<=c)(o:c<=2000000):
 aY 17 #[.pointer (some ⟨D,0,none⟩),b'.val,.int .i64 c] w λe w'=>OP D w (⟨m,s.t⟩,iK c) e w':=by
 have d:aF w (w.alloc b'.obj):=aB (br _ _) _;have a:=(p.zL d);have HP:=aG (a.put (l.zL d));have h:Hid (aT (λk=>k=D) w (f8 (w.alloc b'.obj) D b')):=(aT.below d).trans (dC _ D b');obtain⟨W0,g⟩:=cK (w.alloc b'.obj);rw[g]at a HP h;obtain⟨c0,c1,c2,c3⟩:=a.c;have cf:=a.fz;obtain⟨k0,k1,k2⟩:=aM (by rw[←g];exact wnq w _:W0.heap[w.heap.size]?=some b'.obj);clear d a;go_enter Tryz.func17,Tryz.ntmps17;go_wp2_with fail;refine(AT c _ n o).mono ?_;rintro e w2 ⟨rfl,f⟩;have j:Hid _:=HP.oQ.zL f;have i:Hid _:=h.oQ.trans (aT.below f);clear f HP h;go_wp2;go_ret;exact⟨⟨_,_,_,j.oQ⟩,rfl,i.oQ⟩
theorem bW (l:List ByteArray)(a:Option Addr)(c:Nat)(w:World)(n:Xs 1 dS w a l)(o:l.length<=1048576):
 aY 13 #[.slice a l.length c] w λe w'=>(∃v,e=.returned (.tuple #[v,.bool (jG l)])/\(jG l=true->∃g k,v=.slice g (aS l).length k/\Xs 1 eW w' g (aS l)))/\aF w w':=by
 refine(rV l a c w n o).mono ?_;rintro e w' ⟨⟨d,v,rfl,p⟩|⟨b,v,rfl⟩,i⟩
 ·obtain⟨j,m,rfl,f⟩:=pC (eC l).symm p;exact⟨⟨_,by rw[o9 d],λ_=>⟨j,m,rfl,f⟩⟩,i⟩
 ·exact⟨⟨v,by rw[qO b],λh=>by rw[qO b]at h;cases h⟩,i⟩
theorem VX (l:List ByteArray)(a:Option Addr)(b:Nat)(w:World)(j:Xs 1 dS w a l)(k:l.length<=1048576)(m:∀x∈l,x.size<=1048575):
 aY 39 #[.slice a l.length b] w λe w'=>(∃v,e=.returned (.tuple #[v,.bool (fI l).isSome])/\∀d,fI l=some d->SJ w.heap.size w' v d)/\aF w w':=by
 refine(LE l a b w j k m).mono ?_;rintro e w' ⟨⟨d,c,v,rfl,i⟩|⟨c,v,rfl⟩,g⟩;·exact⟨⟨v,by rw[c];rfl,λf h=>by rw[c]at h;cases h;exact i⟩,g⟩
 ·exact⟨⟨v,by rw[c];rfl,λf h=>by rw[c]at h;cases h⟩,g⟩
theorem JH {d g:List (List Cx)}{s:ByteArray}(h:iM (some d) s=some g){a b:Nat}(h1:d.length<=a)(i:∀c∈d,c.length<=b):g.length<=a+1/\∀c∈g,c.length<=b+1:=by
 simp only[iM,Option.bind_some]at h;split at h
 ·cases h;refine⟨by simp;omega,λc f=>?_⟩;rcases lma.1 f with f|f;·have:=i c f;omega
  ·rw[List.mem_singleton.1 f];simp
 ·split at h
  ·split at h
   ·cases h;refine⟨by simp;omega,λc f=>?_⟩;rcases lma.1 f with f|f;·have:=i c ((List.dropLast_sublist _).subset f);omega
    ·rw[List.mem_singleton.1 f,List.length_append]
     have:(d.getLastD []).length<=b:=by
      cases e:d.getLast? with
      |none=>rw[List.getLastD_eq_getLast?,e];simp
      |some c0=>rw[List.getLastD_eq_getLast?,e];exact i c0 (List.mem_of_getLast? e)
     show(d.getLastD []).length+1<=_;omega
   ·cases h
  ·cases h
theorem zJ:∀(l:List ByteArray) (d f:List (List Cx)) (a b:Nat),l.foldl iM (some d)=some f->d.length<=a->(∀c∈d,c.length<=b)->f.length<=a+l.length/\∀c∈f,c.length<=b+l.length
 |[],d,f,a,b,h,h1,h2=>by cases h;exact⟨h1,h2⟩
 |s::r,d,f,a,b,h,h1,h2=>by
  rw[List.foldl_cons]at h;cases e:iM (some d) s with
  |none=>rw[e,KP]at h;cases h
  |some cs1=>
   rw[e]at h;obtain⟨g,i⟩:=JH e h1 h2;obtain⟨q1,k⟩:=zJ r cs1 f (a+1) (b+1) h g i;exact⟨by simp;omega,λc j=>by have:=k c j;simp;omega⟩
theorem ws9 {d:List ByteArray}(h:8<d.length):∃n nm q c f a l b y e,d=n::nm::q::c::f::a::l::b::y::e:=by
 match d,h with
 |n::nm::q::c::f::a::l::b::y::e,_=>exact⟨n,nm,q,c,f,a,l,b,y,e,rfl⟩
theorem i7 {w:World}{f b:Nat}{d:List ByteArray}(m:Xs 1 dS w (some ⟨f,b,none⟩) d)(i:Nat)(p l r:List ByteArray)(c:d=p++(l++r))(q:p.length=i):Xs 1 dS w (some ⟨f,b+i,none⟩) l:=by
 rcases m with h|⟨bb,oo,e,n⟩
 ·rw[h]at c
  have:l=[]:=by
   cases l with
   |nil=>rfl
   |cons a t=>simp at c
  exact .inl this
 ·cases e;refine .inr ⟨f,b+i,rfl,λk o=>?_⟩;have g:i+k<d.length:=by rw[c];simp;omega
  have:=n (i+k) g
  have e:d[i+k]=l[k]:=by
   subst c;subst q;rw[List.getElem_append_right (by omega)];simp only[Nat.add_sub_cancel_left];rw[List.getElem_append_left o]
  rw[e]at this;have j:b+(i+k)*1=b+i+k*1:=by omega
  rw[j]at this;exact this
theorem gO {w:World}{c a:Nat}{d:List ByteArray}(f:Xs 1 dS w (some ⟨c,a,none⟩) d)(i:Nat)(x:ByteArray)(hx:d[i]?=some x):w.cell? ⟨c,a+i,none⟩=some (.string x):=by
 obtain⟨b,rfl⟩:=lgs.1 hx;rcases f with h|⟨bb,oo,e,g⟩;·rw[h]at b;simp at b
 ·cases e;have:=g i b 0 _ rfl;simpa using this
theorem AB (b:Bk)(x:Wx):0<=dL b x/\dL b x<=2000000:=by
 unfold dL iX;split;·decide
 ·split;·decide
  ·split;·decide
   ·split<;>decide
theorem JL {b:Bk}{x:Wx}{c:Co}{r:List Co}(h:sA b x=c::r):0<=c.d/\c.d<=2000000/\0<=c.i/\c.i<=2000000/\0<=c.k/\c.k<=2000000:=by
 have e:=(ST h).1;unfold sA at h;split at h
 ·have a:c∈gK b x (x.l.toNat+1):=by rw[h];simp
  simp only[gK,lZ,lE,List.mem_flatMap,List.mem_map,List.mem_filter,List.mem_range]at a;obtain⟨d,hd,i,hi,k,⟨hk,_⟩,rfl⟩:=a;simp only[eJ,rU,nM,oE,iN,ES,bat,dte]at e;obtain⟨_,_,_,h1,f,g⟩:=e;have:=f.1;have:=g.1;exact⟨by simp,by simp only;omega,by simp,by simp only;omega,by simp,by simp only;omega⟩
 ·cases h
theorem OI (b:Bk)(x:Wx):∃d i k,gX b (decide (0<=j8 b.hl x.n)) x=fW d i k/\(dL b x=0->yU (sA b x)=⟨#[108,97,116,101,32]⟩++dD d++⟨#[32,119,97,121,32]⟩++dD i++⟨#[32,108,101,118,101,108,32]⟩++dD k/\0<=d/\d<=2000000/\0<=i/\i<=2000000/\0<=k/\k<=2000000):=by
 unfold gX dL;split
 ·rename_i a;cases hl:sA b x with
  |nil=>
   exfalso;unfold iX at a;rw[hl]at a;split at a;·cases a
   ·split at a;·cases a
    ·split at a<;>cases a
  |cons c r=>
   exact⟨c.d,c.i,c.k,rfl,λ_=>⟨rfl,JL hl⟩⟩
 ·rename_i a;exact⟨0,0,0,rfl,λh=>absurd h a⟩
theorem BP {nm q d f a l:ByteArray}{c:List ByteArray}{b:List (List Cx)}{j g:Option Addr}{e:List Yx}{wc i:Nat}(h:e.map Yx.l=b):qK (uQ nm q d f a l c b) ⟨nm,aV q,aV d,aV f,aV a,aV l,j,e,wc,g,aS c,i⟩:=by
 subst h;exact⟨rfl,rfl,rfl,rfl,rfl,rfl,rfl,⟨by simp[uQ],λk hk=>by simp[uQ]⟩⟩
theorem gT {w:World}{k:Nat}{o:Obj}(h:w.heap[k]?=some o):k<w.heap.size:=(bU h)
theorem oC (b:Bk)(nm:ByteArray):0<=cJ b nm/\cJ b nm<=2000000:=by
 unfold cJ;split;·decide
 ·split;·split<;>decide
  ·decide
theorem BT (b:Bk)(nm:ByteArray)(a:List Bx):0<=dX b nm a/\dX b nm a<=2000000:=by
 unfold dX jH;split;·decide
 ·split
  ·split
   ·split;·split<;>decide
    ·decide
   ·decide
  ·decide
theorem AF (b:Bk)(n:Int):0<=cV b n/\cV b n<=2000000:=by
 unfold cV;split<;>decide
theorem zC {s:St}{a:List ByteArray}(h:¬a.length=1):pF s a=(s,cX):=by
 unfold pF;split;·simp at h
 ·rfl
theorem wJ {took:Bool}{s:St}{a:List ByteArray}(h:¬a.length=1):nA took s a=(s,cX):=by
 unfold nA;split;·simp at h
 ·rfl
theorem DF {s:St}{a:List ByteArray}(h:¬(a.length=1/\jG a=true)):lT s a=(s,cX):=by
 unfold lT;split
 ·rename_i x;split
  ·rename_i hx;exact absurd ⟨rfl,by simp[jG,hx]⟩ h
  ·rfl
 ·rfl
theorem nU.ne {D:Nat}{w:World}{s:St}{b:Bk}{ta:Option Addr}{d c o:Nat}{x:ByteArray}(h:nU D w s b ta d)(a:w.cell? ⟨c,o,none⟩=some (.string x)):c≠D:=λe=>by
 subst e;simp only[World.cell?,h.o]at a;match o,a with
 |0,a=>simp at a
 |1,a=>simp at a
 |2,a=>simp at a
 |3,a=>simp at a
 |n+4,a=>simp at a
theorem nU.hand {D:Nat}{w:World}{s:St}{b:Bk}{ta:Option Addr}{e:Nat}(h:nU D w s b ta e){t':List Bx}{ta':Option Addr}{tc':Nat}(d:∀w',aT (λk=>k=D) w w'->jJ w' ta' t'):nU D (w.setCell ⟨D,3,none⟩ (.slice ta' t'.length tc')) ⟨s.b,t'⟩ b ta' tc':=by
 have a:aT (λk=>k=D) w (w.setCell ⟨D,3,none⟩ (.slice ta' t'.length tc')):=(aT.refl (λk=>k=D) w).set (g:=D) rfl _ _;exact⟨aO h.o 3 _,h.b.but a,λf c=>d f (a.trans c)⟩
abbrev CY:ByteArray:=⟨#[116,111,111,32,108,111,110,103,10]⟩
def eZ (text:ByteArray):List ByteArray:=if((bH 10 text).getLastD ⟨#[]⟩).toList=[]then(bH 10 text).dropLast else bH 10 text
noncomputable def FN (p:St×ByteArray)(ln:ByteArray):St×ByteArray:=((aX p.1 (bH 32 ln)).1,p.2++(aX p.1 (bH 32 ln)).2++XS)
def ZA:St:=⟨⟨0,none,[],0,none,[],0⟩,[]⟩
noncomputable def nP (l:List ByteArray):St×ByteArray:=l.foldl FN (ZA,⟨#[]⟩)
noncomputable def B6 (text:ByteArray):ByteArray:=if 20000<text.size then CY else if 300<(eZ text).length then CY else(nP (eZ text)).2
theorem rA (c:Int)(s:ByteArray):∀(m f i:Nat),s.size-i=m->fE c s f i≠[]/\∀x∈fE c s f i,x.size<=s.size
 |m,f,i,h=>by
  have g:∀a b,(s.extract a b).size<=s.size:=λa b=>by rw[ByteArray.size_extract];omega
  by_cases d:i<s.size
  ·by_cases e:(s[i].toNat:Int)=c
   ·rw[lF d e];have:=rA c s (s.size-(i+1)) (i+1) (i+1) rfl;refine⟨by simp,λx hx=>?_⟩;rcases List.mem_cons.1 hx with rfl|hx;·exact g _ _
    ·exact this.2 x hx
   ·rw[jY d e];exact rA c s (s.size-(i+1)) f (i+1) rfl
  ·rw[lA d];refine⟨by simp,λx hx=>?_⟩;rw[List.mem_singleton.1 hx];exact g _ _
 termination_by m => m
theorem yP (c:Int)(s:ByteArray):bH c s≠[]:=(rA c s _ 0 0 rfl).1
theorem nS {c:Int}{s x:ByteArray}(h:x∈bH c s):x.size<=s.size:=(rA c s _ 0 0 rfl).2 x h
theorem JM {b:Bk}{x:Wx}:(yU (sA b x)).size<=2000000000:=by
 cases h:sA b x with
 |nil=>show(ByteArray.mk #[]).size<=_;decide
 |cons c r=>
  obtain⟨_,f,_,g,_,i⟩:=JL h;have:=bG f;have:=bG g;have:=bG i;have a:(⟨#[108,97,116,101,32]⟩:ByteArray).size=5:=rfl;have d:(⟨#[32,119,97,121,32]⟩:ByteArray).size=5:=rfl;have e:(⟨#[32,108,101,118,101,108,32]⟩:ByteArray).size=7:=rfl;simp only[yU,ByteArray.size_append,a,d,e];omega
theorem nX {c:Int}(h:c<=2000000):(iK c).size<=2000000000:=by have:=K1 h;omega
theorem eX:cX.size<=2000000000:=by decide
theorem DP {b:Bk}(c:aN b=true):(qD b).size<=2000000000:=by
 have a:=uJ c
 have d:=zR b.hl (λx hx=>by
  obtain⟨_,d,e,f,g,h⟩:=a x hx;exact⟨lN d (oD g),lN e (oD h),f⟩) (dD b.now)
 have e:=lS c
 have f:b.now<=10000:=by
  have:=(eN.1 c).1;rw[nT,dte]at this;exact this.2
 have g:=bG (n:=b.now) (by omega);unfold qD;omega
theorem MB (b:Bk)(nm:ByteArray)(t:List Bx)(a:Int):(mS b nm t a).size<=2000000000:=by
 have i:((nR b nm t a).foldl mJ ⟨#[]⟩).size<=301*4000004:=by
  rcases SS b nm t a with h|h
  ·have:=wK _ (λp f=>⟨(yG h p f).2.1,(yG h p f).2.2.2⟩) ⟨#[]⟩;have e:(ByteArray.mk #[]).size=0:=rfl;have:=h.len;omega
  ·rw[h];show(ByteArray.mk #[]).size<=_;decide
 unfold mS;obtain⟨o,j⟩:=bP ((nR b nm t a).foldl mJ ⟨#[]⟩);rw[←j]at i ⊢;have c:(⟨#[110,101,118,101,114]⟩:ByteArray).size=5:=rfl;have g:(⟨#[102,114,101,101,32]⟩:ByteArray).size=5:=rfl;rcases TH b nm t a with h|h
 ·cases he:pN b nm t a with
  |none=>simp only[OL,ByteArray.size_append,c];omega
  |some d=>
   rw[he]at h;have:=bG (EV h).2;simp only[OL,ByteArray.size_append,g];omega
 ·rw[h];simp only[OL,ByteArray.size_append,c];omega
theorem wB {k:Nat}{s:St}(h:iP k s)(d:List ByteArray):(aX s d).2.size<=2000000000:=by
 have a:SE.size<=2000000000:=by decide
 have c:WT.size<=2000000000:=by decide
 unfold aX;split;·exact eX
 ·split
  ·unfold fT;split
   ·split
    ·split;·exact a
     ·exact c
    ·exact eX
   ·exact eX
  ·split
   ·unfold jW;split
    ·split
     ·split
      ·unfold nK;show(if _ then _ else _:ByteArray).size<=_;split;·exact JM
       ·exact nX (AB _ _).2
      ·exact eX
     ·exact eX
    ·exact eX
   ·split
    ·unfold uE;split
     ·split;·exact a
      ·exact eX
     ·exact eX
    ·split
     ·unfold pF;split;·exact nX (BT _ _ _).2
      ·exact eX
     ·split
      ·unfold nA;split;·exact nX (oC _ _).2
       ·exact eX
      ·split
       ·unfold nA;split;·exact nX (oC _ _).2
        ·exact eX
       ·split
        ·unfold lT;split
         ·split;·exact nX (AF _ _).2
          ·exact eX
         ·exact eX
        ·split
         ·unfold tX;split;·exact DP h.b
          ·exact eX
         ·split
          ·unfold mY;split
           ·split;·exact MB _ _ _ _
            ·exact eX
           ·exact eX
          ·exact eX
theorem wP (l:List ByteArray)(k:Nat)(h:k<l.length):nP (l.take (k+1))=FN (nP (l.take k)) l[k]:=by
 rw[nP,nP,List.take_succ_eq_append_getElem h,List.foldl_append];rfl
theorem XI:iP 0 ZA:=⟨by decide,nlq _⟩
theorem F7 (l:List ByteArray):∀k,k<=l.length->iP k (nP (l.take k)).1/\(nP (l.take k)).2.size<=k*2000000001
 |0,_=>⟨XI,by show(ByteArray.mk #[]).size<=_;decide⟩
 |k+1,h=>by
  obtain⟨a,h2⟩:=F7 l k (by omega);rw[wP l k (by omega)];refine⟨V7 a _,?_⟩;have h3:=wB a (bH 32 l[k]);have e:XS.size=1:=rfl;show((nP (l.take k)).2++(aX (nP (l.take k)).1 (bH 32 l[k])).2++XS).size<=_;simp only[ByteArray.size_append,e];omega
end Go.Proofs.YtcdbcliaepcpfaaGreatDoor
