import Derived.Test.YtcdbcliaepcpfaaGreatDoorMarkB
import Derived.Test.YtcdbcliaepcpfaaGreatDoorAny
namespace Go.Proofs.YtcdbcliaepcpfaaGreatDoor
open Go.RowKit
def Z8 (k:Int)(h:Hx):Int:=k+1+6*(h.tl.length:Int)+6*(h.nl.length:Int)
def cH:Int->List Hx->Int
 |k,[]=>k
 |k,h::r=>cH (Z8 k h) r
def Hx.bs (h:Hx):List Nat:=(h.ta.map Addr.block).toList++(h.na.map Addr.block).toList
structure eS (z:Nat)(w:World)(h:Hx):Prop where
 t:aP w z (.slice h.ta h.tl.length h.tc) h.tl
 n:aP w z (.slice h.na h.nl.length h.nc) h.nl
theorem aP.but {S:Nat->Prop}{w w':World}{z:Nat}{a:Option Addr}{n c:Nat}{l:List Bx}(h:aP w z (.slice a n c) l)(j:aT S w w')(p:∀x,a=some x->¬S x.block):aP w' z (.slice a n c) l:=by
 rcases h with h|⟨g,b,e,o,k,f,d,m⟩;·exact .inl h
 ·have i:a=some ⟨g,0,none⟩:=by cases e;rfl
  exact .inr ⟨g,b,e,o,k,f,d.of_block (j.block g d.lt (p _ i)),m⟩
theorem eS.but {S:Nat->Prop}{w w':World}{z:Nat}{h:Hx}(b:eS z w h)(a:aT S w w')(c:∀x∈h.bs,¬S x):eS z w' h:=
 ⟨b.t.but a (λx e=>c _ (by simp[Hx.bs,e])),b.n.but a (λx e=>c _ (by simp[Hx.bs,e]))⟩
theorem eS.zL {w w':World}{z:Nat}{h:Hx}(b:eS z w h)(a:aF w w'):eS z w' h:=b.but (aT.below (S:=λ_=>False) a) (λ_ _ e=>e)
theorem aT.wide {S S':Nat->Prop}{w w':World}(h:aT S w w')(b:∀k,S k->S' k):aT S' w w':=⟨h.os,h.tape,h.output,h.size,λk a g=>h.block k a (λe=>g (b k e))⟩
structure xS (z:Nat)(w:World)(b:Bk):Prop where
 f:b.fl=[]∨∃p cap,b.fa=some ⟨p,0,none⟩/\z<=p/\b.fl.length<=cap/\fP 74 3 Fx.cells w p cap b.fl b.fl.length
 h:b.hl=[]∨∃q cap,b.ha=some ⟨q,0,none⟩/\z<=q/\b.hl.length<=cap/\fP 90 3 Hx.cells w q cap b.hl b.hl.length
 t:∀h∈b.hl,eS z w h
 d:((b.fa.map Addr.block).toList++((b.ha.map Addr.block).toList++b.hl.flatMap Hx.bs)).Nodup
 z:∀k∈(b.fa.map Addr.block).toList++((b.ha.map Addr.block).toList++b.hl.flatMap Hx.bs),z<=k
theorem fP.but {α:Type}{t sz:Nat}{c:α->List Value}{S:Nat->Prop}{w w':World}{b n k:Nat}{l:List α}(h:fP t sz c w b n l k)(d:aT S w w')(g:¬S b):fP t sz c w' b n l k:=by
 obtain⟨f,a,e⟩:=h;exact⟨f,a.of_block (d.block _ a.lt g),e⟩
theorem xS.fs {z:Nat}{w:World}{b:Bk}(h:xS z w b):Xs 3 Fx.cells w b.fa b.fl:=by
 rcases h.f with e|⟨p,cap,e,_,a,c⟩;·exact .inl e
 ·rw[e];exact c.xs Fx.cells_length (nlq _) a
theorem xS.hs {z:Nat}{w:World}{b:Bk}(h:xS z w b):Xs 3 Hx.cells w b.ha b.hl:=by
 rcases h.h with e|⟨p,cap,e,_,a,c⟩;·exact .inl e
 ·rw[e];exact c.xs Hx.cells_length (nlq _) a
theorem aP.xs {w:World}{z:Nat}{a:Option Addr}{n c:Nat}{l:List Bx}(h:aP w z (.slice a n c) l):jJ w a l:=by
 obtain⟨a',c',d,b⟩:=h.slice;cases d;exact b
theorem xS.inn {z:Nat}{w:World}{b:Bk}(h:xS z w b):∀x∈b.hl,x.In w:=λx hx=>⟨(h.t x hx).t.xs,(h.t x hx).n.xs⟩
end Go.Proofs.YtcdbcliaepcpfaaGreatDoor
