import Derived.Test.YtcdbcliaepcpfaaGreatDoorSm0
import Derived.Test.YtcdbcliaepcpfaaGreatDoorDn
namespace Go.Proofs.YtcdbcliaepcpfaaGreatDoor
open Go.RowKit
theorem bJ {w w':World}{k:Nat}{o:Obj}(h:w.heap[k]?=some o)(a:aF w w'):w'.heap[k]?=some o:=(a.block _ (bU h)).trans h
theorem bE {S:Nat->Prop}{w w':World}{k:Nat}{o:Obj}(h:w.heap[k]?=some o)(a:aT S w w')(b:¬S k):w'.heap[k]?=some o:=(a.block _ (bU h) b).trans h
end Go.Proofs.YtcdbcliaepcpfaaGreatDoor
namespace Go.Proofs.YtcdbcliaepcpfaaGreatDoor
set_option maxRecDepth 100000
set_option maxHeartbeats 8000000
open Go.RowKit Go.Shelf
attribute [local go_sem] Oper.semAt_some
theorem kH {w:World}{b c d j k:Nat}{f g:Nat->Value}(h:w.rowIs b c j f)(i:w.rowIs b d k g):c=d:=by
 obtain⟨c1,e,_⟩:=h;obtain⟨c2,a,_⟩:=i;rw[e]at a;cases a;rfl
theorem aO {W:World}{p t:Nat}{a:Array Value}(h:W.heap[p]?=some (.cells a t))(j:Nat)(y:Value):(W.setCell ⟨p,j,none⟩ y).heap[p]?=some (.cells (a.setIfInBounds j y) t):=by
 show(W.heap.modify _ _)[p]?=_;rw[Array.getElem?_modify,if_pos rfl,h];rfl
theorem bX {W:World}{k:Nat}{o:Obj}(h:W.heap[k]?=some o){p:Addr}(a:k≠p.block)(y:Value):(W.setCell p y).heap[k]?=some o:=(Below.heap_setCell W p y k a).trans h
theorem bQ.weak {α:Type}{t sz:Nat}{c:α->List Value}{w:World}{base base':Nat}{v:Value}{l:List α}(h:bQ t sz c w base v l)(hb:base'<=base):bQ t sz c w base' v l:=by
 rcases h with h|⟨g,a,b,h2,d⟩;·exact .inl h
 ·exact .inr ⟨g,a,b,by omega,d⟩
theorem bQ.other {α:Type}{t sz:Nat}{c:α->List Value}{w:World}{base:Nat}{v:Value}{l:List α}(h:bQ t sz c w base v l){g:Nat}(hg:g<base)(o:Nat)(u:Value):bQ t sz c (w.setCell ⟨g,o,none⟩ u) base v l:=by
 rcases h with h|⟨d,b,e,f,i,j⟩;·exact .inl h
 ·exact .inr ⟨d,b,e,f,i,j.setOther (a:=⟨g,o,none⟩) (by show d≠g;omega) u⟩
def C1 (B:Nat)(b:Bk)(Z:Nat)(j:Nat)(v:Value)(w:World):Prop:=
 match j with
 |0=>v=.pointer (some ⟨B,1,none⟩)
 |1=>v=.slice b.fa b.fl.length b.fc
 |2=>bQ 74 3 Fx.cells w Z v b.fl/\mZ v
 |3=>v=.pointer (some ⟨B,2,none⟩)
 |4=>v=.slice b.ha b.hl.length b.hc
 |5=>bQ 90 3 Hx.cells w Z v b.hl/\mZ v
 |6=>v=.pointer (some ⟨B,1,none⟩)
 |_=>True
theorem C1.zL {B:Nat}{b:Bk}{Z:Nat}(j:Nat)(v:Value)(w w':World)(h:C1 B b Z j v w)(a:aF w w'):C1 B b Z j v w':=by
 unfold C1 at h ⊢;split
 all_goals first
  |exact h
  |exact bQ.zL h a
  |exact⟨bQ.zL h.1 a,h.2⟩
  |trivial
theorem aP.blkLt {w:World}{base:Nat}{v:Value}{l:List Bx}(h:aP w base v l){q:Nat}(a:v.ownBlock=some q):q<w.heap.size:=by
 rcases h with⟨rfl,_⟩|⟨g,cap,rfl,h2,h3,f,b,_⟩;·simp[Value.ownBlock]at a
 ·simp[Value.ownBlock]at a;rw[←a];exact b.lt
theorem aP.blkGe {w:World}{base:Nat}{v:Value}{l:List Bx}(h:aP w base v l){q:Nat}(a:v.ownBlock=some q):base<=q:=by
 rcases h with⟨rfl,_⟩|⟨g,cap,rfl,b,h3,f,hr,_⟩;·simp[Value.ownBlock]at a
 ·simp[Value.ownBlock]at a;rw[←a];exact b
theorem aP.adr {w:World}{base:Nat}{a:Option Addr}{n c:Nat}{l:List Bx}(h:aP w base (.slice a n c) l):(Value.slice a n c).ownBlock=a.map Addr.block:=by
 rcases h with⟨e,_⟩|⟨g,cap,e,_⟩;·cases e;rfl
 ·cases e;rfl
theorem aP.setRow {w:World}{base:Nat}{v:Value}{l:List Bx}{g t n:Nat}{f:Nat->Value}(h:aP w base v l)(q:w.rowIs g t n f)(r:t≠56)(o:Nat)(u:Value):aP (w.setCell ⟨g,o,none⟩ u) base v l:=by
 rcases h with h|⟨d,c,k,m,p,j,b,s⟩;·exact .inl h
 ·refine .inr ⟨d,c,k,m,p,j,b.setOther (a:=⟨g,o,none⟩) (λe=>r ?_) u,s⟩;have i:d=g:=e;subst i;exact kH q b
theorem eS.setRow {w:World}{z:Nat}{h:Hx}{g t n:Nat}{f:Nat->Value}(a:eS z w h)(b:w.rowIs g t n f)(c:t≠56)(o:Nat)(u:Value):eS z (w.setCell ⟨g,o,none⟩ u) h:=⟨a.t.setRow b c o u,a.n.setRow b c o u⟩
theorem bQ.setRow {α:Type}{t sz:Nat}{c:α->List Value}{w:World}{base:Nat}{v:Value}{l:List α}{g t' n:Nat}{f:Nat->Value}(h:bQ t sz c w base v l)(r:w.rowIs g t' n f)(s:t'≠t)(o:Nat)(u:Value):bQ t sz c (w.setCell ⟨g,o,none⟩ u) base v l:=by
 rcases h with h|⟨i,d,m,p,q,k,b,x⟩;·exact .inl h
 ·refine .inr ⟨i,d,m,p,q,k,b.setOther (a:=⟨g,o,none⟩) (λe=>s ?_) u,x⟩;have j:i=g:=e;subst j;exact kH r b
theorem eS.bs_in {w:World}{z:Nat}{h:Hx}(b:eS z w h):∀q∈h.bs,z<=q/\q<w.heap.size:=by
 intro q c;simp only[Hx.bs,lma,Option.mem_toList,Option.map_eq_some_iff]at c;rcases c with⟨a,ha,rfl⟩|⟨a,ha,rfl⟩
 ·have e:(Value.slice h.ta h.tl.length h.tc).ownBlock=some a.block:=by rw[b.t.adr,ha];rfl
  exact⟨b.t.blkGe e,b.t.blkLt e⟩
 ·have e:(Value.slice h.na h.nl.length h.nc).ownBlock=some a.block:=by rw[b.n.adr,ha];rfl
  exact⟨b.n.blkGe e,b.n.blkLt e⟩
theorem aU.snoc {l m:List Hx}{a b:Hx}(h:aU l m)(g:a.Like b):aU (l++[a]) (m++[b]):=by
 refine⟨by simp[h.len],λk d=>?_⟩;by_cases e:k<l.length
 ·rw[List.getElem_append_left e,List.getElem_append_left (by rw[h.len];exact e)];exact h.like k e
 ·have c:k=l.length:=by simp at d;omega
  subst c;rw[List.getElem_append_right (nlq _),List.getElem_append_right (by rw[h.len];exact nlq _)];simpa[h.len]using g
theorem fP.lists {W:World} {q k r j:Nat} {L:List Hx} {f:Nat->Value} {h h':Hx} {a b:Value} (m:W.rowIs q 90 (k*3) (λi=>if i=j*3+2 then b else if i=j*3+1 then a else f i))
 (o:∀i (h:i<L.length),i<r->∀q v,(L[i].cells)[q]?=some v->f (i*3+q)=v) (u:L[j]?=some h) (e:h'.cells=[.string h.n,a,b]):
 fP 90 3 Hx.cells W q k (L.set j h') r:=by
 refine⟨_,m,λi t p c v d=>?_⟩;have g:i<L.length:=by simpa using t
 by_cases l:j=i
 ·subst l;rw[List.getElem_set_self,e]at d;have s:L[j]=h:=by have:=u;rw[lge g]at this;exact Option.some.inj this
  match c,d with
  |0,d=>rw[if_neg (by omega),if_neg (by omega)];exact o j g p 0 v (by rw[s];simpa[Hx.cells]using d)
  |1,d=>rw[if_neg (by omega),if_pos rfl];simpa using d
  |2,d=>rw[if_pos rfl];simpa using d
 ·rw[List.getElem_set_ne l]at d;have hc3:c<3:=(lgs.1 d).1;rw[if_neg (by omega),if_neg (by omega)];exact o i g p c v d
structure WX (w:World)(b:Bk)(Z:Nat)(a2 a5:Option Addr)(c2 c5:Nat)(rs dn:List Hx)(wr:World):Prop where
 n:aF w wr
 z:Z<=wr.heap.size
 a:wr.heap[w.heap.size]?=some (.cells #[.int .i64 b.now,.slice a2 b.fl.length c2,.slice a5 b.hl.length c5] 30)
 r:wr.heap[w.heap.size+1]?=some (.cells #[.int .i64 0,.slice none 0 0,.slice none 0 0] 30)
 f:bQ 74 3 Fx.cells wr Z (.slice a2 b.fl.length c2) b.fl
 h:bQ 90 3 Hx.cells wr Z (.slice a5 b.hl.length c5) (dn++rs)
 t:∀x∈dn,eS Z wr x
 d:(dn.flatMap Hx.bs).Nodup
theorem WX.zL {w:World}{b:Bk}{Z:Nat}{e g:Option Addr}{i j:Nat}{l k:List Hx}{wr w':World}(h:WX w b Z e g i j l k wr)(c:aF wr w'):WX w b Z e g i j l k w':=
 ⟨aC h.n c,Nat.le_trans h.z c.size,bJ h.a c,bJ h.r c,h.f.zL c,h.h.zL c,λx hx=>(h.t x hx).zL c,h.d⟩
theorem QA {w w0:World}{b:Bk}{Z D:Nat}{Q s c:Option Addr}{g R E u j:Nat}{A l:List Hx}{x:Hx}{f:Nat->Value}(hZ:w.heap.size+1<Z)(S:WX w b Z Q (some ⟨g,0,none⟩) R E (x::A) l w0)(N:Z<=g)(G:b.hl.length<=E)(Y:(l++x::A).length=b.hl.length)
 (k:w0.rowIs g 90 (E*3) f)(X:∀i (h:i<(l++x::A).length),i<b.hl.length->∀q v,((l++x::A)[i].cells)[q]?=some v->f (i*3+q)=v)
 (M:aP w0 D (.slice s x.tl.length u) x.tl)(B:aP w0 D (.slice c x.nl.length j) x.nl)(H:∀q,(Value.slice s x.tl.length u).ownBlock=some q->(Value.slice c x.nl.length j).ownBlock≠some q)(F:Z<=D)(O:∀q∈l.flatMap Hx.bs,q<D):
 WX w b Z Q (some ⟨g,0,none⟩) R E A (l++[⟨x.n,s,x.tl,u,c,x.nl,j⟩]) ((w0.setCell ⟨g,l.length*3+1,none⟩ (.slice s x.tl.length u)).setCell ⟨g,l.length*3+2,none⟩ (.slice c x.nl.length j)):=by
 have o:=k.set (l.length*3+1) (.slice s x.tl.length u);have P:=o.set (l.length*3+2) (.slice c x.nl.length j);have C:(90:Nat)≠56:=by decide
 have W:(90:Nat)≠74:=by decide
 refine⟨(S.n.setCell (p:=⟨g,_,none⟩) (by show w.heap.size<=g;omega) _).setCell (p:=⟨g,_,none⟩) (by show w.heap.size<=g;omega) _,by simpa using S.z,?_,?_,(S.f.setRow k W _ _).setRow o W _ _,?_,?_,?_⟩
 ·exact bX (bX S.a (p:=⟨g,_,none⟩) (by show w.heap.size≠g;omega) _) (p:=⟨g,_,none⟩) (by show w.heap.size≠g;omega) _
 ·exact bX (bX S.r (p:=⟨g,_,none⟩) (by show w.heap.size+1≠g;omega) _) (p:=⟨g,_,none⟩) (by show w.heap.size+1≠g;omega) _
 ·have T:(l++x::A).set l.length (⟨x.n,s,x.tl,u,c,x.nl,j⟩:Hx)=(l++[(⟨x.n,s,x.tl,u,c,x.nl,j⟩:Hx)])++A:=by
   rw[List.set_append_right _ _ (nlq _),Nat.sub_self];simp
  have m:((l++[(⟨x.n,s,x.tl,u,c,x.nl,j⟩:Hx)])++A).length=b.hl.length:=by rw[←T,List.length_set];exact Y
  refine .inr ⟨g,E,by rw[m],N,by rw[m];exact G,?_⟩;rw[m,←T];exact fP.lists (h:=x) P X (by rw[List.getElem?_append_right (nlq _),Nat.sub_self];rfl) rfl
 ·intro y L
  simp only[lma,List.mem_singleton]at L
  rcases L with L|rfl
  ·exact((S.t y L).setRow k C _ _).setRow o C _ _
  ·exact⟨((M.weak F).setRow k C _ _).setRow o C _ _,((B.weak F).setRow k C _ _).setRow o C _ _⟩
 ·rw[List.flatMap_append,List.nodup_append]
  have I:eS D w0 ⟨x.n,s,x.tl,u,c,x.nl,j⟩:=⟨M,B⟩;refine⟨S.d,?_,λq K r J e=>?_⟩
  ·simp only[List.flatMap_cons,List.flatMap_nil,List.append_nil,Hx.bs]
   rw[List.nodup_append];refine⟨by cases s<;>simp,by cases c<;>simp,λq K r J e=>?_⟩;subst e;rw[Option.mem_toList]at K J;have U:=M.adr;have V:=B.adr;rw[K]at U;rw[J]at V;exact H q U V
  ·subst e
   simp only[List.flatMap_cons,List.flatMap_nil,List.append_nil]at J;have h1:=O q K;have h2:=(I.bs_in q J).1;omega
theorem eS.bs_row {w:World}{z:Nat}{h:Hx}(d:eS z w h):∀q∈h.bs,∃n f,w.rowIs q 56 n f:=by
 intro q i;simp only[Hx.bs,lma,Option.mem_toList,Option.map_eq_some_iff]at i;rcases i with⟨a,ha,rfl⟩|⟨a,ha,rfl⟩
 ·rcases d.t with⟨e,_⟩|⟨g,b,e,_,_,f,c,_⟩;·rw[ha]at e;cases e
  ·rw[ha]at e;cases e;exact⟨_,f,c⟩
 ·rcases d.n with⟨e,_⟩|⟨g,b,e,_,_,f,c,_⟩;·rw[ha]at e;cases e
  ·rw[ha]at e;cases e;exact⟨_,f,c⟩
theorem bQ.adr {α:Type}{t sz:Nat}{c:α->List Value}{w:World}{base:Nat}{a:Option Addr}{n cp:Nat}{l:List α}(h:bQ t sz c w base (.slice a n cp) l):∀q∈(a.map Addr.block).toList,base<=q/\∃m f,w.rowIs q t m f:=by
 intro q hq;rcases h with⟨e,_⟩|⟨g,cap,e,hg,_,f,hr,_⟩;·cases e;simp at hq
 ·cases e;simp at hq;subst hq;exact⟨hg,_,f,hr⟩
theorem gN (a:Option Addr):((a.map Addr.block).toList).Nodup:=by cases a<;>simp
theorem UD {w:World}{Z:Nat}{z:Int}{A B:Option Addr}{o:List Fx}{h:List Hx}{C D:Nat}(u:bQ 74 3 Fx.cells w Z (.slice A o.length C) o)(j:bQ 90 3 Hx.cells w Z (.slice B h.length D) h)(v:∀x∈h,eS Z w x)(F:(h.flatMap Hx.bs).Nodup):
 xS Z w ⟨z,A,o,C,B,h,D⟩:=by
 have d:∀q∈h.flatMap Hx.bs,Z<=q/\∃n f,w.rowIs q 56 n f:=λq b=>by
  obtain⟨y,E,b⟩:=List.mem_flatMap.1 b;exact⟨((v y E).bs_in q b).1,(v y E).bs_row q b⟩
 refine⟨?_,?_,v,?_,?_⟩
 ·rcases u with⟨_,e⟩|⟨g,m,e,p,s,t⟩;·exact .inl e
  ·cases e;exact .inr ⟨g,_,rfl,p,s,t⟩
 ·rcases j with⟨_,e⟩|⟨g,m,e,p,s,t⟩;·exact .inl e
  ·cases e;exact .inr ⟨g,_,rfl,p,s,t⟩
 ·rw[List.nodup_append,List.nodup_append];refine⟨gN _,⟨gN _,F,λq b r c e=>?_⟩,λq b r c e=>?_⟩
  ·subst e;obtain⟨_,_,_,l⟩:=j.adr q b;obtain⟨_,_,_,i⟩:=d q c;exact absurd (kH l i) (by decide)
  ·subst e;obtain⟨_,_,_,l⟩:=u.adr q b;rcases lma.1 c with c|c
   ·obtain⟨_,_,_,i⟩:=j.adr q c;exact absurd (kH l i) (by decide)
   ·obtain⟨_,_,_,i⟩:=d q c;exact absurd (kH l i) (by decide)
 ·intro k a;rcases lma.1 a with a|a;·exact(u.adr k a).1
  ·rcases lma.1 a with a|a;·exact(j.adr k a).1
   ·exact(d k a).1
theorem eS.butHeld {z g n:Nat}{w w':World}{f:Nat->Value}{x:Hx}(h:eS z w x)(d:w.rowIs g 90 n f)(b:aT (λk=>k=g) w w'):eS z w' x:=
 h.but b (λq c e=>by
  obtain⟨_,_,r⟩:=h.bs_row q c;have a:q=g:=e;subst a;exact absurd (kH d r) (by decide))
structure gY (z:Nat)(w:World)(b:Bk):Prop where
 f:bQ 74 3 Fx.cells w z (.slice b.fa b.fl.length b.fc) b.fl
 h:bQ 90 3 Hx.cells w z (.slice b.ha b.hl.length b.hc) b.hl
 t:∀x∈b.hl,eS z w x
 d:(b.hl.flatMap Hx.bs).Nodup
 c:b.hc<=maxLen
 cf:b.fc<=maxLen
theorem gY.ans {z:Nat}{w:World}{b:Bk}(h:gY z w b):xS z w b:=UD h.f h.h h.t h.d
theorem bQ.butRow {α:Type}{t sz:Nat}{c:α->List Value}{S:Nat->Prop}{w w':World}{base:Nat}{v:Value}{l:List α}(h:bQ t sz c w base v l)(m:aT S w w')(o:∀k n f,base<=k->w.rowIs k t n f->¬S k):bQ t sz c w' base v l:=by
 rcases h with h|⟨g,a,e,d,i,f,b,j⟩;·exact .inl h
 ·exact .inr ⟨g,a,e,d,i,f,b.of_block (m.block _ b.lt (o g _ _ d b)),j⟩
theorem gY.but {S:Nat->Prop}{z:Nat}{w w':World}{b:Bk}(h:gY z w b)(a:aT S w w')(e:∀k,S k->k<z):gY z w' b:=
 ⟨h.f.butRow a (λk _ _ i _ g=>by have:=e k g;omega),h.h.butRow a (λk _ _ i _ g=>by have:=e k g;omega),λx hx=>(h.t x hx).but a (λq j g=>by have:=e q g;have:=((h.t x hx).bs_in q j).1;omega),h.d,h.c,h.cf⟩
theorem gY.zL {z:Nat}{w w':World}{b:Bk}(h:gY z w b)(a:aF w w'):gY z w' b:=h.but (aT.below (S:=λ_=>False) a) (λ_ e=>e.elim)
theorem eS.weak {z z':Nat}{w:World}{x:Hx}(h:eS z w x)(a:z'<=z):eS z' w x:=⟨h.t.weak a,h.n.weak a⟩
theorem gY.weak {z z':Nat}{w:World}{b:Bk}(h:gY z w b)(a:z'<=z):gY z' w b:=⟨h.f.weak a,h.h.weak a,λx hx=>(h.t x hx).weak a,h.d,h.c,h.cf⟩
theorem gY.put {z:Nat}{w w':World}{b:Bk}{g i:Nat}{d:Hx}(h:gY z w b)(ha:b.ha=some ⟨g,0,none⟩)(m:i<b.hl.length)(l:aT (λk=>k=g) w w')(u:fP 90 3 Hx.cells w' g b.hc (b.hl.set i d) b.hl.length)(hx:eS z w' d)(x:((b.hl.set i d).flatMap Hx.bs).Nodup):
 gY z w' ⟨b.now,b.fa,b.fl,b.fc,b.ha,b.hl.set i d,b.hc⟩:=by
 obtain⟨a,e,A,hc,f0,n,_⟩:∃a,b.hc=a/\z<=g/\b.hl.length<=a/\fP 90 3 Hx.cells w g a b.hl b.hl.length:=by
  rcases h.h with⟨e,p⟩|⟨g',a,e,q,r,s⟩;·rw[p]at m;simp at m
  ·rw[ha]at e;cases e;exact⟨_,rfl,q,r,s⟩
 refine⟨h.f.butRow l (λk _ _ _ v e=>by have o:k=g:=e;subst o;exact absurd (kH n v) (by decide)),.inr ⟨g,b.hc,by simp[ha],A,by simp;omega,by simpa using u⟩,λy j=>?_,x,h.c,h.cf⟩;rcases List.mem_or_eq_of_mem_set j with j|rfl;·exact(h.t y j).butHeld n l
 ·exact hx
def C5 (B K g n k c5:Nat)(x:Hx)(Z:Nat)(j:Nat)(vs:Nat->Value)(w:World):Prop:=
 match j with
 |0=>vs 0=.pointer (some ⟨B,2,none⟩)
 |1=>vs 1=.slice (some ⟨g,0,none⟩) n c5
 |2=>vs 2=.int .i64 (k:Int)
 |3=>vs 3=.pointer (some ⟨B,2,none⟩)
 |4=>vs 4=.slice (some ⟨g,0,none⟩) n c5
 |5=>vs 5=.int .i64 (k:Int)
 |6=>vs 6=.pointer (some ⟨K,1,none⟩)
 |7=>vs 7=.slice x.ta x.tl.length x.tc
 |8=>aP w Z (vs 8) x.tl
 |9=>vs 9=.pointer (some ⟨K,2,none⟩)
 |10=>vs 10=.slice x.na x.nl.length x.nc
 |11=>aP w Z (vs 11) x.nl/\∀q,(vs 8).ownBlock=some q->(vs 11).ownBlock≠some q
 |_=>True
def YP (j:Nat):List Nat:=if j=11 then[11,8]else[j]
def Y1 (j:Nat):Bool:=j==3||j==4||j==5
def F5 (B g n k c5:Nat)(j:Nat)(v:Value):Prop:=
 match j with
 |3=>v=.pointer (some ⟨B,2,none⟩)
 |4=>v=.slice (some ⟨g,0,none⟩) n c5
 |5=>v=.int .i64 (k:Int)
 |_=>True
theorem C5.zL {B K g n k a:Nat}{x:Hx}{Z:Nat}(j:Nat)(c:Nat->Value)(w w':World)(h:C5 B K g n k a x Z j c w)(b:aF w w'):C5 B K g n k a x Z j c w':=by
 unfold C5 at h ⊢;split
 all_goals first
  |exact h
  |exact aP.zL h b
  |exact⟨aP.zL h.1 b,h.2⟩
  |trivial
theorem C5.loc {B K g n k c:Nat}{x:Hx}{Z:Nat}(j:Nat)(d a:Nat->Value)(w:World)(b:∀q∈YP j,d q=a q)(h:C5 B K g n k c x Z j d w):C5 B K g n k c x Z j a w:=by
 unfold C5 at h ⊢;split at h
 all_goals first
  |(rw[←b _ (by simp[YP])];exact h)
  |(rw[←b 11 (by simp[YP]),←b 8 (by simp[YP])];exact h)
  |trivial
theorem C5.free {B K g n k a:Nat}{x:Hx}{Z:Nat}(j:Nat)(c:Nat->Value)(w:World)(b:Y1 j=true)(h:C5 B K g n k a x Z j c w):F5 B g n k a j (c j):=by
 simp[Y1]at b;rcases b with(rfl|rfl)|rfl<;>exact h
def GB5 (W4:World)(g n k c5:Nat)(x:Hx)(Z:Nat)(vs:Nat->Value)(w0:World):Prop:=
 aF W4 w0/\vs 1=.slice (some ⟨g,0,none⟩) n c5/\vs 2=.int .i64 (k:Int)/\aP w0 Z (vs 8) x.tl/\aP w0 Z (vs 11) x.nl/\∀q,(vs 8).ownBlock=some q->(vs 11).ownBlock≠some q
def G5 (W4:World)(g n k c5:Nat)(x:Hx)(Z:Nat)(t:Nat)(vs:Nat->Value)(w':World):Prop:=
 (13<=t->vs 12=.pointer (some ⟨g,k*3,none⟩))/\(14<=t->vs 13=.pointer (some ⟨g,k*3+1,none⟩))/\∃w0,GB5 W4 g n k c5 x Z vs w0/\w'=if t=15 then w0.setCell ⟨g,k*3+1,none⟩ (vs 8)else w0
theorem LX (b:Bk)(w:World)(hf:Xs 3 Fx.cells w b.fa b.fl)(yr:b.fl.length<=1048576)(hh:Xs 3 Hx.cells w b.ha b.hl)(hnh:b.hl.length<=64)(hg:∀h∈b.hl,h.In w/\h.Fit):
 aY 184 #[b.val] w λe w'=>(∃b':Bk,e=.returned b'.val/\b'.now=b.now/\b'.fl=b.fl/\aU b.hl b'.hl/\gY w.heap.size w' b')/\aF w w':=by
 have zs:aF w ((w.alloc b.obj).alloc (.cells #[.int .i64 0,.slice none 0 0,.slice none 0 0] 30)):=aB (aB (br _ _) _) _;have A0:=(halq (w.alloc b.obj) (.cells #[.int .i64 0,.slice none 0 0,.slice none 0 0] 30) w.heap.size (by simp)).trans (wnq w b.obj);have R0:=wnq (w.alloc b.obj) (.cells #[.int .i64 0,.slice none 0 0,.slice none 0 0] 30);rw[wsa]at R0
 go_enter Tryz.func184,Tryz.ntmps184
 go_wp2_with fail
 obtain⟨W0,ya⟩:=cK ((w.alloc b.obj).alloc (.cells #[.int .i64 0,.slice none 0 0,.slice none 0 0] 30));rw[ya]at zs A0 R0 ⊢;have HA:Hid _:=A0;have HR:Hid _:=R0;have zg:w.heap.size<W0.heap.size:=(bU A0);have yg:w.heap.size+1<W0.heap.size:=(bU R0);clear ya A0 R0;refine pG 7 [some 5,some 6,some 7,some 8,some 9,some 10,some 11] (C1 w.heap.size b W0.heap.size) C1.zL ?step ?fin
 case step=>
  intro i o l w' zf m u K;have Y:=aC zs u;have A:=bJ HA.oQ u
  match i,zf with
  |0,_|3,_|6,_=>
   simp at m;subst m;simp only[aE,Act.put];gi_wp2;exact⟨_,by simp[aH],rfl,br _ _⟩
  |1,_=>
   simp at m;subst m;have s:l 0=_:=Zq K 0;have k1:w'.cell? ⟨w.heap.size,1,none⟩=some (.slice b.fa b.fl.length b.fc):=aJ A rfl;clear A;simp only[aE,Act.put];rw[s];gi_wp2;exact⟨_,by simp[aH,s],rfl,br _ _⟩
  |2,_=>
   simp at m;subst m;have d1:l 1=_:=Zq K 1;clear A;simp only[aE,Act.put];rw[d1];gi_wp2_with fail
   refine⟨trivial,rfl,?_⟩;refine(cw.2 (y8 b.fl b.fa b.fc w' (hf.zL Y) yr)).mono ?_;rintro e w3 ⟨⟨v,rfl,B,G⟩,J⟩;have HP:Hid _:=B;have zk:Hid _:=G;clear B G;gi_wp2;exact⟨_,by simp[aH,d1],⟨bQ.weak HP.oQ u.size,zk.oQ⟩,J⟩
  |4,_=>
   simp at m;subst m;have d3:l 3=_:=Zq K 3;have k2:w'.cell? ⟨w.heap.size,2,none⟩=some (.slice b.ha b.hl.length b.hc):=aJ A rfl;clear A;simp only[aE,Act.put];rw[d3];gi_wp2;exact⟨_,by simp[aH,d3],rfl,br _ _⟩
  |5,_=>
   simp at m;subst m;have d4:l 4=_:=Zq K 4;clear A;simp only[aE,Act.put];rw[d4];gi_wp2_with fail
   refine⟨trivial,rfl,?_⟩;refine(cw.2 (MO b.hl b.ha b.hc w' (hh.zL Y) (by omega))).mono ?_;rintro e w3 ⟨⟨v,rfl,B,G⟩,J⟩;have HP:Hid _:=B;have zk:Hid _:=G;clear B G;gi_wp2;exact⟨_,by simp[aH,d4],⟨bQ.weak HP.oQ u.size,zk.oQ⟩,J⟩
  |j+7,h=>exact absurd h (by omega)
 case fin=>
  intro l w' u H;have h2:bQ 74 3 Fx.cells w' W0.heap.size (l 2) b.fl:=(H 2 (by decide)).1;have zi:mZ (l 2):=(H 2 (by decide)).2;have h5:bQ 90 3 Hx.cells w' W0.heap.size (l 5) b.hl:=(H 5 (by decide)).1;have G:mZ (l 5):=(H 5 (by decide)).2;have d6:l 6=_:=H 6 (by decide);obtain⟨X,T,e2⟩:=h2.slice;obtain⟨S,C,e5⟩:=h5.slice;rw[e2]at h2;rw[e5]at h5;have yi:Hid (C<=maxLen):=G _ _ _ e5;have yh:Hid (T<=maxLen):=zi _ _ _ e2;clear H G zi;simp only[lds,List.drop_zero,aE,Act.put];rw[e2,e5,d6];clear e2 e5 d6;generalize l 0=v0;generalize l 1=v1;generalize l 3=v3;generalize l 4=v4;have A:=bJ HA.oQ u;have R:=bJ HR.oQ u;have k1:w'.cell? ⟨w.heap.size,1,none⟩=some (.slice b.fa b.fl.length b.fc):=aJ A rfl;have k2:w'.cell? ⟨w.heap.size,2,none⟩=some (.slice b.ha b.hl.length b.hc):=aJ A rfl;have kf:=iQ A;have A2:=aO (aO A 1 (.slice X b.fl.length T)) 2 (.slice S b.hl.length C);have R2:=bX (bX R (p:=⟨w.heap.size,1,none⟩) (by simp) (.slice X b.fl.length T)) (p:=⟨w.heap.size,2,none⟩) (by simp) (.slice S b.hl.length C);have zq:=(h2.other (g:=w.heap.size) zg 1 (.slice X b.fl.length T)).other (g:=w.heap.size) zg 2 (.slice S b.hl.length C);have zr:=(h5.other (g:=w.heap.size) zg 1 (.slice X b.fl.length T)).other (g:=w.heap.size) zg 2 (.slice S b.hl.length C);have N1:=((aC zs u).setCell (p:=⟨w.heap.size,1,none⟩) (nlq _) (.slice X b.fl.length T)).setCell (p:=⟨w.heap.size,2,none⟩) (nlq _) (.slice S b.hl.length C);clear h2 h5 A R;obtain⟨W1,zu⟩:=cK ((w'.setCell ⟨w.heap.size,1,none⟩ (.slice X b.fl.length T)).setCell ⟨w.heap.size,2,none⟩ (.slice S b.hl.length C));rw[zu]at A2 R2 zq zr N1;have zj:=aG A2;have zy:Hid _:=R2;have j2:W1.cell? ⟨w.heap.size,2,none⟩=some (.slice S b.hl.length C):=aJ zj.oQ rfl;have yn:=u.size;clear A2 R2 u HA HR;gi_wp2_with fail
  have yt:W0.heap.size<=W1.heap.size:=by
   rw[←zu];simp;exact yn
  clear zu k1 k2 kf;go_wp2_with fail
  go_loopw [16] (λi wr=>∃(s U O:List Hx),Hid (b.hl=s++U)/\Hid (aU s O)/\i=.int .i64 (s.length:Int)/\WX w b W0.heap.size X S T C U O wr) (λi _=>b.hl.length-(intOf i).toNat)
  case atStart=>exact⟨[],b.hl,[],rfl,⟨rfl,λk h=>absurd h (by simp)⟩,rfl,⟨N1,yt,zj.oQ,zy.oQ,zq,zr,λx h=>by simp at h,by simp⟩⟩
  case round=>
   clear zj zy zq zr N1 j2;obtain⟨s,U,O,hm,L,rfl,I⟩:=hrel;have P:b.hl.length=s.length+U.length:=by rw[hm.out];simp
   cases U with
   |cons x U=>
    have yq:s.length<b.hl.length:=by rw[P];simp
    have hdl:s.length<=64:=by omega
    have yk:=aG P;obtain⟨yf,ye⟩:=hg x (by rw[hm.out];simp)
    obtain⟨g,rfl,yp,yc,f,E,hf⟩:∃g,S=some ⟨g,0,none⟩/\W0.heap.size<=g/\b.hl.length<=C/\fP 90 3 Hx.cells wr g C (O++x::U) b.hl.length:=by
     have M:(O++x::U).length=b.hl.length:=by have:=L.out.len;rw[P];simp;omega
     rcases I.h with⟨_,e⟩|⟨g,cap,e,h1,h2,h3⟩
     ·simp at e
     ·rw[M]at e h2 h3
      cases e
      exact⟨g,rfl,h1,h2,h3⟩
    have zt:(O++x::U)[s.length]?=some x:=by rw[←L.out.len,List.getElem?_append_right (nlq _),Nat.sub_self];rfl
    have ze:∀c v,(x.cells)[c]?=some v->f (s.length*3+c)=v:=λc v hc=>hf s.length (lgs.1 zt).1 yq c v (by rw[(lgs.1 zt).2];exact hc);have e0:=E.cell (i:=s.length*3) (by omega);have e1:=E.cell (i:=s.length*3+1) (by omega);have e2:=E.cell (i:=s.length*3+2) (by omega);rw[show f (s.length*3)=.string x.n from ze 0 _ rfl]at e0;rw[show f (s.length*3+1)=.slice x.ta x.tl.length x.tc from ze 1 _ rfl]at e1;rw[show f (s.length*3+2)=.slice x.na x.nl.length x.nc from ze 2 _ rfl]at e2;have HF:Hid _:=hf;have Z:aF wr (wr.alloc (.cells #[.string x.n,.slice x.ta x.tl.length x.tc,.slice x.na x.nl.length x.nc] 90)):=aB (br _ _) _;have zl:Hid _:=wnq wr (.cells #[.string x.n,.slice x.ta x.tl.length x.tc,.slice x.na x.nl.length x.nc] 90);have zm:Hid _:=I.zL Z;have zb:Hid _:=bJ I.a Z;have W:Hid _:=E.of_block (Z.block _ E.lt);have N4:=aC I.n Z
    have zh:Hid (∀q∈O.flatMap Hx.bs,q<(wr.alloc (.cells #[.string x.n,.slice x.ta x.tl.length x.tc,.slice x.na x.nl.length x.nc] 90)).heap.size):=λq hq=>by
     obtain⟨y,hy,hq⟩:=List.mem_flatMap.1 hq;have:=((I.t y hy).bs_in q hq).2
     simp;omega
    have hzr:=I.z;obtain⟨W4,yb⟩:=cK (wr.alloc (.cells #[.string x.n,.slice x.ta x.tl.length x.tc,.slice x.na x.nl.length x.nc] 90));rw[yb]at zl zm zb W N4 zh;clear hf E ze zt P Z I;go_wp2_with fail
    clear yb e0 e1 e2;refine SZ 4 12 15 [some 21,some 22,some 23,some 24,some 25,some 26,some 27,some 28,some 29,some 30,some 31,some 32,some 33,some 34] Y1 YP (C5 w.heap.size wr.heap.size g b.hl.length s.length C x W4.heap.size) (F5 w.heap.size g b.hl.length s.length C) (G5 W4 g b.hl.length s.length C x W4.heap.size) C5.zL C5.loc C5.free ?step ?free ?g0 ?gf ?store ?fin
    case step=>
     intro i o l w' zf m u K;have Y:=aC N4 u
     match i,zf with
     |0,_|2,_|3,_|5,_|6,_|9,_=>
      simp at m;subst m;simp only[aE,Act.put];gi_wp2;exact⟨_,by simp[aH],rfl,br _ _⟩
     |1,_=>
      simp at m;subst m;have s:l 0=_:=Zq K 0;have k2:w'.cell? ⟨w.heap.size,2,none⟩=some (.slice (some ⟨g,0,none⟩) b.hl.length C):=aJ (bJ zb.oQ u) rfl;simp only[aE,Act.put];rw[s];gi_wp2;exact⟨_,by simp[aH,s],rfl,br _ _⟩
     |4,_=>
      simp at m;subst m;have d3:l 3=_:=Zq K 3;have k2:w'.cell? ⟨w.heap.size,2,none⟩=some (.slice (some ⟨g,0,none⟩) b.hl.length C):=aJ (bJ zb.oQ u) rfl;simp only[aE,Act.put];rw[d3];gi_wp2;exact⟨_,by simp[aH,d3],rfl,br _ _⟩
     |7,_=>
      simp at m;subst m;have d6:l 6=_:=Zq K 6;have k1:w'.cell? ⟨wr.heap.size,1,none⟩=some (.slice x.ta x.tl.length x.tc):=aJ (bJ zl.oQ u) rfl;simp only[aE,Act.put];rw[d6];gi_wp2;exact⟨_,by simp[aH,d6],rfl,br _ _⟩
     |8,_=>
      simp at m;subst m;have d7:l 7=_:=Zq K 7;simp only[aE,Act.put];rw[d7];gi_wp2_with fail
      refine⟨trivial,rfl,?_⟩;refine(cw.2 (sW x.tl x.ta x.tc w' (yf.1.zL Y) ye.tn)).mono ?_;rintro e w3 ⟨⟨v,rfl,B⟩,J⟩;have HP:Hid _:=B;clear B;gi_wp2;exact⟨_,by simp[aH,d7],aP.weak HP.oQ u.size,J⟩
     |10,_=>
      simp at m;subst m;have d9:l 9=_:=Zq K 9;have k2:w'.cell? ⟨wr.heap.size,2,none⟩=some (.slice x.na x.nl.length x.nc):=aJ (bJ zl.oQ u) rfl;simp only[aE,Act.put];rw[d9];gi_wp2;exact⟨_,by simp[aH,d9],rfl,br _ _⟩
     |11,_=>
      simp at m;subst m;have zz:l 10=_:=Zq K 10;have h8:aP w' W4.heap.size (l 8) x.tl:=K { on:=8,ground:=Ground.chain} (by simp) rfl;simp only[aE,Act.put];rw[zz];gi_wp2_with fail
      refine⟨trivial,rfl,?_⟩;refine(cw.2 (sW x.nl x.na x.nc w' (yf.2.zL Y) ye.nn)).mono ?_;rintro e w3 ⟨⟨v,rfl,B⟩,J⟩;have HP:Hid _:=B;clear B;gi_wp2;exact⟨_,by simp[aH,zz],⟨aP.weak HP.oQ u.size,λq hq ys=>Nat.lt_irrefl _ (Nat.lt_of_lt_of_le (h8.blkLt hq) (aP.blkGe HP.oQ ys))⟩,J⟩
     |j+12,h=>exact absurd h (by omega)
    case free=>
     intro i o l w' t zf zv m ht htM hG K
     have zw:i=3∨i=4∨i=5:=by
      simp[Y1]at zv;omega
     rcases zw with rfl|rfl|rfl
     ·simp at m
      subst m;simp only[aE,Act.put];gi_wp2;exact⟨_,by simp[aH],rfl⟩
     ·simp at m
      subst m;have d3:l 3=_:=K (eD 3) (by simp) rfl rfl
      have k2:w'.cell? ⟨w.heap.size,2,none⟩=some (.slice (some ⟨g,0,none⟩) b.hl.length C):=by
       obtain⟨_,_,w0,D,rfl⟩:=hG;have h0:=aJ (j:=2) (v:=.slice (some ⟨g,0,none⟩) b.hl.length C) (bJ zb.oQ D.1) rfl
       split
       ·exact(World.cell?_setCell_other _ _ _ _ (λe=>absurd (congrArg Addr.block e) (by show g≠w.heap.size;omega))).trans h0
       ·exact h0
      simp only[aE,Act.put];rw[d3];clear hG;gi_wp2;exact⟨_,by simp[aH,d3],rfl⟩
     ·simp at m
      subst m;simp only[aE,Act.put];gi_wp2;exact⟨_,by simp[aH],rfl⟩
    case g0=>
     intro l w' u H;exact⟨λh=>absurd h (by decide),λh=>absurd h (by decide),w',⟨u,H 1 (by decide) rfl,H 2 (by decide) rfl,H 8 (by decide) rfl,(H 11 (by decide) rfl).1,(H 11 (by decide) rfl).2⟩,rfl⟩
    case gf=>
     intro t l w' i v zv hG
     have zw:i=3∨i=4∨i=5:=by
      simp[Y1]at zv;omega
     rcases zw with rfl|rfl|rfl<;>exact hG
    case store=>
     intro t o l w' h12 h15 m hG K;obtain⟨g1,g2,w0,D,F⟩:=hG;have ht:t=12∨t=13∨t=14:=by omega
     rcases ht with rfl|rfl|rfl
     ·simp at m
      subst m;rw[if_neg (by decide)]at F;subst F;have HG:Hid _:=D;have d1:=D.2.1;have d2:=D.2.2.1;clear D g1 g2;simp only[aE,Act.put];rw[d1,d2];gi_wp2;exact⟨_,by simp[aH,d1,d2],λ_=>rfl,λh=>absurd h (by decide),w',HG.oQ,rfl⟩
     ·simp at m
      subst m;rw[if_neg (by decide)]at F;subst F;have HG:Hid _:=D;have N:=g1 (by decide);clear D g1 g2;simp only[aE,Act.put];rw[N];gi_wp2;exact⟨_,by simp[aH,N],λ_=>N,λ_=>rfl,w',HG.oQ,rfl⟩
     ·simp at m
      subst m;rw[if_neg (by decide)]at F;subst F;have HG:Hid _:=D;have N:=g1 (by decide);have zp:=g2 (by decide);obtain⟨u,d1,d2,h8,_,_⟩:=D;obtain⟨a8,c8,e8,_⟩:=h8.slice;have Q:=World.rowIs.of_block W.oQ (u.block _ (World.rowIs.lt W.oQ));have cc:=Q.cell (i:=s.length*3+1) (by omega);have cf:=λi=>Q.frozen i;clear h8 g1 g2 u;simp only[aE,Act.put];rw[zp,e8];gi_wp2;exact⟨undef,by simp[aH,zp,e8,d1,d2,N],λ_=>N,λ_=>zp,w',HG.oQ,by rw[if_pos rfl];show _=w'.setCell _ (l 8);rw[e8]⟩
    case fin=>
     intro l w' hG H;obtain⟨g1,g2,w0,⟨u,d1,d2,h8,zd,za⟩,F⟩:=hG;rw[if_pos rfl]at F;subst F;have d4:l 4=_:=H 4 (by decide) rfl;have d5:l 5=_:=H 5 (by decide) rfl;obtain⟨a8,c8,e8,_⟩:=h8.slice;obtain⟨zn,zo,zc,_⟩:=zd.slice;rw[e8,zc]at za;rw[e8]at h8;rw[zc]at zd;simp only[lds,List.drop_zero,aE,Act.put];rw[d4,d5,e8,zc];clear H g1 g2 d1 d2 d4 d5 e8 zc;generalize l 0=v0;generalize l 1=v1;generalize l 2=v2;generalize l 3=v3;generalize l 6=v6;generalize l 7=v7;generalize l 9=v9;generalize l 10=v10;generalize l 12=v12;generalize l 13=v13;have Q:=World.rowIs.of_block W.oQ (u.block _ (World.rowIs.lt W.oQ));have zx:=Q.set (s.length*3+1) (.slice a8 x.tl.length c8);have cc:=zx.cell (i:=s.length*3+2) (by omega);have cf:=λi=>zx.frozen i
     have HN:Hid (WX w b W0.heap.size X (some ⟨g,0,none⟩) T C U (O++[⟨x.n,a8,x.tl,c8,zn,x.nl,zo⟩]) ((w0.setCell ⟨g,s.length*3+1,none⟩ (.slice a8 x.tl.length c8)).setCell ⟨g,s.length*3+2,none⟩ (.slice zn x.nl.length zo))):=by
      have:=QA yg (zm.oQ.zL u) yp yc (by have:=L.out.len;rw[yk.oQ];simp;omega) Q HF.oQ h8 zd za (zm.oQ.z) (λq hq=>zh.oQ q hq);rw[L.out.len]at this;exact this
     have yj:Hid (aU (s++[x]) (O++[⟨x.n,a8,x.tl,c8,zn,x.nl,zo⟩])):=L.out.snoc ⟨rfl,rfl,rfl⟩;have yl:Hid (b.hl=(s++[x])++U):=by rw[Hid,hm.out];simp
     clear Q zx h8 zd za;gi_wp2_with fail
     go_wp2
     go_roundw
     case rel=>exact⟨s++[x],U,_,yl,yj,by simp,HN.oQ⟩
     case measure=>simp[intOf];omega
   |nil=>
    have hjn:b.hl.length<=s.length:=by simp at P;omega
    have yd:b.hl=s:=by simpa using hm.out
    have HL:Hid (aU b.hl O):=by rw[Hid,yd];exact L.out
    obtain⟨k0,k1,k2⟩:=aM I.a;obtain⟨r0,r1,r2⟩:=aM I.r;have rf:=iQ I.r;have V:Hid _:=I;clear P yd hm L I;go_wp2_with fail
    have M:O.length=b.hl.length:=HL.oQ.len
    have hA:gY W0.heap.size wr ⟨b.now,X,b.fl,T,S,O,C⟩:=by
     have h:=V.oQ.h;rw[List.append_nil]at h;exact⟨V.oQ.f,(by simp only;rw[M];exact h),V.oQ.t,V.oQ.d,yi.oQ,yh.oQ⟩
    have I:aT (λk=>k=w.heap.size+1) wr (((wr.setCell ⟨w.heap.size+1,0,none⟩ (.int .i64 b.now)).setCell ⟨w.heap.size+1,1,none⟩ (.slice X b.fl.length T)).setCell ⟨w.heap.size+1,2,none⟩ (.slice S b.hl.length C)):=(((aT.refl (λk=>k=w.heap.size+1) wr).set (g:=w.heap.size+1) rfl _ _).set (g:=w.heap.size+1) rfl _ _).set (g:=w.heap.size+1) rfl _ _;have ym:=(hA.but I (λk hk=>by rw[hk];exact yg)).weak (z':=w.heap.size) (by omega);have yo:=I.under V.oQ.n (nlq _) (λk hk=>by rw[hk];omega);exact bpr (v:=Bk.val ⟨b.now,X,b.fl,T,S,O,C⟩) (by simp[results,Tryz.results184,go_sem,r0,r1,r2,M]) rfl ⟨⟨_,rfl,rfl,rfl,HL.oQ,ym⟩,yo⟩
end Go.Proofs.YtcdbcliaepcpfaaGreatDoor
