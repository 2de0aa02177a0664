import Derived.Laws.BytesArg
import Derived.Test.YtoolgmmljacfmaaGreatDoorTurn
import Derived.Test.YtoolgmmljacfmaaGreatDoorAny
open Go.RowKit
namespace Go.Proofs.YtoolgmmljacfmaaGreatDoor
variable {S:Nat → Prop}{a b c w w':Wd}{B:Nat}{v:Va}
structure aU (S:Nat->Prop)(w w':World):Prop where
 os:w'.os=w.os
 tape:w'.tape=w.tape
 output:w'.output=w.output
 size:w.heap.size<=w'.heap.size
 block:∀k,k<w.heap.size->¬S k->w'.heap[k]?=w.heap[k]?
theorem aU.refl (S:Nat->Prop)(w:Wd):aU S w w:=⟨rfl,rfl,rfl,nlq _,λ_ _ _=>rfl⟩
theorem aU.trans (h:aU S a b)(g:aU S b c):aU S a c:=⟨g.os.trans h.os,g.tape.trans h.tape,g.output.trans h.output,nlt h.size g.size,λk d e=>(g.block k (nll d h.size) e).trans (h.block k d e)⟩
theorem aU.below {S:Nat->Prop}(h:aG b c):aU S b c:=⟨h.os,h.tape,h.output,h.size,λk a _=>h.block k a⟩
theorem aU.set {S:Nat->Prop}(h:aU S a w){g:Nat}(b:S g)(o:Nat)(u:Va):aU S a (w.setCell (Y g o) u):=
 h.trans ⟨rfl,rfl,rfl,by show w.heap.size<=(w.heap.modify _ _).size;rw[Array.size_modify];exact nlq _,λk _ c=>bhs w (Y g o) u k (λe=>c (by rw[show k=g from e];exact b))⟩
theorem aU.under (h:aU S w w')(b:Below B a w)(c:B<=a.heap.size)(d:∀k,S k->B<=k):Below B a w':=
 b.trans ⟨h.os,h.tape,h.output,h.size,λk e=>h.block k (nll e (nlt c b.size)) (λf=>by have:=d k f;omega)⟩
theorem aU.cell {w w':Wd}(h:aU S w w'){p:Addr}(b:¬S p.block)(a:w.cell? p=some v):w'.cell? p=some v:=by
 have:=h.block p.block (aA a) b;unfold World.cell? at a ⊢;rw[this];exact a
def dgs:Nat->Int->ByteArray->ByteArray
 |0,_,s=>s
 |f+1,d,s=>if 0<d then dgs f (d/10) (strOfNums [48+d%10]++s)else s
def mtx (k:Int):ByteArray:=if k<=0 then ByteArray.mk #[109,48]else ByteArray.mk #[109]++dgs k.toNat k (ByteArray.mk #[])
def T7 (sl:Value)(i:Int)(p:Addr)(k:Int)(j:Nat)(v:Value)(_w:World):Prop:=
 match j with
 |0=>v=sl
 |1=>v=I i
 |2=>v=.pointer (some p)
 |3=>v=.pointer (some p)
 |4=>v=.string (mtx k)
 |5=>v=I k
 |6=>v=.string (mtx k)
 |_=>True
variable {z n c:Nat}{a:Oa}{l:List Bx}{h:Hx}
def nxH (k:Int)(h:Hx):Int:=k+1+6*(h.tl.length:Int)+6*(h.nl.length:Int)
def cH:Int->List Hx->Int
 |k,[]=>k
 |k,h::r=>cH (nxH k h) r
def Hx.bs (h:Hx):List Nat:=(h.ta.map Addr.block).toList++(h.na.map Addr.block).toList
structure fF (z:Nat)(w:World)(h:Hx):Prop where
 t:aN w z (.slice h.ta h.tl.length h.tc) h.tl
 n:aN w z (.slice h.na h.nl.length h.nc) h.nl
theorem aN.but (h:aN w z (.slice a n c) l)(j:aU S w w')(p:∀x,a=some x->¬S x.block):aN w' z (.slice a n c) l:=by
 rcases h with h|⟨g,b,e,o,k,f,d,m⟩;·exact .inl h
 ·have i:a=some (Y g 0):=by cases e;rfl
  exact .inr ⟨g,b,e,o,k,f,d.of_block (j.block g d.lt (p _ i)),m⟩
theorem fF.but (b:fF z w h)(a:aU S w w')(c:∀x∈h.bs,¬S x):fF z w' h:=
 ⟨b.t.but a (λx e=>c _ (by simp[Hx.bs,e])),b.n.but a (λx e=>c _ (by simp[Hx.bs,e]))⟩
theorem fF.zL {w w':Wd}(b:fF z w h)(a:aG w w'):fF z w' h:=b.but (aU.below (S:=λ_=>False) a) (λ_ _ e=>e)
theorem aU.wide {S S':Nat->Prop}(h:aU S w w')(b:∀k,S k->S' k):aU S' w w':=⟨h.os,h.tape,h.output,h.size,λk a g=>h.block k a (λe=>g (b k e))⟩
variable {t sz b k:Nat}{v:Bk}
structure yS (z:Nat)(w:World)(b:Bk):Prop where
 f:b.fl=[]∨∃p cap,b.fa=some ⟨p,0,none⟩/\z<=p/\b.fl.length<=cap/\gD 34 3 Fx.cells w p cap b.fl b.fl.length
 h:b.hl=[]∨∃q cap,b.ha=some ⟨q,0,none⟩/\z<=q/\b.hl.length<=cap/\gD 74 3 Hx.cells w q cap b.hl b.hl.length
 t:∀h∈b.hl,fF z w h
 d:((b.fa.map Addr.block).toList++((b.ha.map Addr.block).toList++b.hl.flatMap Hx.bs)).Nodup
 z:∀k∈(b.fa.map Addr.block).toList++((b.ha.map Addr.block).toList++b.hl.flatMap Hx.bs),z<=k
theorem gD.but {α:Type}{c:α->List Va}{l:List α}(h:gD t sz c w b n l k)(d:aU S w w')(g:¬S b):gD t sz c w' b n l k:=by
 obtain⟨f,a,e⟩:=h;exact⟨f,a.of_block (d.block _ a.lt g),e⟩
theorem yS.fs (h:yS t w v):Xs 3 Fx.cells w v.fa v.fl:=by
 rcases h.f with e|⟨p,cap,e,_,a,c⟩;·exact .inl e
 ·rw[e];exact c.xs Fx.cells_length (nlq _) a
theorem yS.hs (h:yS t w v):Xs 3 Hx.cells w v.ha v.hl:=by
 rcases h.h with e|⟨p,cap,e,_,a,c⟩;·exact .inl e
 ·rw[e];exact c.xs Hx.cells_length (nlq _) a
theorem aN.xs {n c:Nat}(h:aN w t (.slice a n c) l):jG w a l:=by
 obtain⟨a',c',d,b⟩:=h.slice;cases d;exact b
theorem yS.inn (h:yS sz w v):∀x∈v.hl,x.In w:=λx hx=>⟨(h.t x hx).t.xs,(h.t x hx).n.xs⟩
