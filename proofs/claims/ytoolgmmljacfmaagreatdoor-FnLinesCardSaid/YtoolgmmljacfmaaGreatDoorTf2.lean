import Derived.Test.YtoolgmmljacfmaaGreatDoorRv
import Derived.Test.YtoolgmmljacfmaaGreatDoorYa
open List renaming length → ln
open Go.RowKit
namespace Go.Proofs.YtoolgmmljacfmaaGreatDoor
open Go.Shelf Go.BigFrame
variable {R z:Nat}{w w':Wd}{s:Ba}{a:List Fx}{l:List Bx}{b b':Bk}{v:Ev}
theorem aZ.but (h:aZ R w w'):aU (λk=>k=R) w w':=⟨h.os,h.tape,h.output,h.size,λk a e=>h.block k a e⟩
theorem MR (h:cO s=true):s.size<=8:=by
 simp only[cO,bat,wI,dte]at h;exact h.1.2
theorem BH (h:aQ a l=true):ln l<=40:=by
 simp only[aQ,bat,oO,dte]at h;exact h.1.2
theorem ER (h:aO b=true):∀x∈b.hl,x.n.size<=8/\(ln x.tl)<=40/\(ln x.nl)<=40:=by
 obtain⟨_,_,_,a⟩:=dQ.1 h;simp only[dU,bat,bX,lat]at a;intro x hx;have c:=a.2.1 x hx;simp only[cK,bat,bot,List.isEmpty_iff]at c;refine⟨MR (a.1.1 x hx),BH c.1,?_⟩;rcases c.2.2 with e|e;·rw[e];exact nz _
 ·exact BH e.1
theorem TH (h:aO b=true):ln b.fl<=4/\∀f∈b.fl,f.n.size<=8:=by
 obtain⟨_,a,_,_⟩:=dQ.1 h;simp only[bU,bat,bX,lat,dte]at a;exact⟨a.1,λf c=>MR (a.2.1.1 f c)⟩
theorem dS.butR (h:dS z w b)(c:aZ R w w')(a:R<z):dS z w' b:=h.but c.but (λk e=>by rw[e];exact a)
theorem dS.asks (h:dS z w b)(a:aO b=true):iX w b:=by
 have i:=TH a;have j:=ER a;have k:=kD a;refine⟨bW.xs Fx.cells_length h.f,om,?_,h.c _ _ _ rfl,λf m=>by have:=i.2 f m;omega,bW.xs Hx.cells_length h.h,om,λx m=>⟨h.inn x m,?_⟩⟩
 ·rcases h.f with⟨_,e⟩|⟨g,cap,e,_,d,_⟩;·rw[e];exact nz _
  ·simp only[vsi]at e;rw[e.2.2];exact d
 ·obtain⟨h1,h2,d⟩:=j x m;exact⟨om,om,om⟩
theorem FF.asksW (h:FF w R v):iL w v.x:=by
 rcases h.x with h|h
 ·refine⟨h.in,⟨by have:=h.w3;omega,λy a=>by have:=(h.yn y a).l2;omega,by have:=h.l3;omega,by have:=h.n3;omega⟩,λy a=>?_⟩;have a:=(h.yn y a).own;obtain⟨ao,cp,e,_,b⟩:=mD Cx.cells_length a;cases e;exact⟨b,jY a _ _ _ rfl⟩
 ·rw[h];exact⟨⟨.inl rfl,λy a=>by simp[D2]at a,.inl rfl⟩,⟨by simp[D2],λy a=>by simp[D2]at a,by simp[D2],by show(0:Nat)<=_;omega⟩,λy a=>by simp[D2]at a⟩
theorem stp_ok (h:aO b=true)(e:b'.now=nZ b v)(c:b'.fl=b.fl)(d:aT (n5 b v) b'.hl):aO b'=true:=by
 have f:aO (dN b (nZ b v) (n5 b v))=true:=by
  unfold nZ n5;by_cases a:v.k=4;·simpa[a]using FN 1 h
  ·rw[if_neg a];split;·exact L7 v.x h
   ·split;·exact KQ v.n v.tl h
    ·split;·exact yD v.n v.t h
     ·exact dQ.2 (dQ.1 h)
 exact(nS (b:=dN b (nZ b v) (n5 b v)) e c d).trans f
variable {a b c:Wd}{k q t:Nat}{o:Obj}{v:Oa}{p:Int}{n:Array Va}{f:Nat → Va}{l:Bk}{s m:Ev}
def V9 (t:Nat):Prop:=t=34∨t=74∨t=91∨t=89∨t=107∨t=3
instance (t:Nat):Decidable (V9 t):=by unfold V9;infer_instance
structure F4 (w w':World):Prop where
 os:w'.os=w.os
 tape:w'.tape=w.tape
 output:w'.output=w.output
 size:w.heap.size<=w'.heap.size
 block:∀(k:Nat) (cs:Array Value) (t:Nat),w.heap[k]?=some (Obj.cells cs t)->V9 t->w'.heap[k]?=w.heap[k]?
theorem F4.trans (h:F4 a b)(g:F4 b c):F4 a c:=
 ⟨g.os.trans h.os,g.tape.trans h.tape,g.output.trans h.output,nlt h.size g.size,λk d t e f=>(g.block k d t ((h.block k d t e f).trans e) f).trans (h.block k d t e f)⟩
theorem oH (h:a.heap[k]?=some o):k<a.heap.size:=(cE h)
theorem F4.below (h:aG a b):F4 a b:=⟨h.os,h.tape,h.output,h.size,λk _ _ e _=>h.block k (oH e)⟩
theorem F4.rd {R n a:Nat}(h:aZ R w w')(g:Rd w R v n a p):F4 w w':=
 ⟨h.os,h.tape,h.output,h.size,λk cs t e i=>h.block k (oH e) (λd=>by
  subst d;obtain⟨f,⟨cs',b,_⟩,_⟩:=g.row;rw[e]at b;cases b;exact absurd i dz)⟩
theorem F4.set (d:w.heap[q]?=some (.cells n t))(f:¬V9 t)(o:Nat)(u:Va):F4 w (w.setCell (Y q o) u):=
 ⟨rfl,rfl,rfl,by show w.heap.size<=(w.heap.modify _ _).size;rw[Array.size_modify];exact nlq _,λk cs' t' e h'=>bhs w (Y q o) u k (λb=>by
  have c:k=q:=b;subst c;rw[d]at e;cases e;exact f h')⟩
theorem F4.at (h:F4 w w')(b:w.rowIs k t q f)(c:V9 t):w'.heap[k]?=w.heap[k]?:=by
 obtain⟨a,e,_⟩:=b;exact h.block k a t e c
theorem dS.oth (h:dS z w l)(a:F4 w w'):dS z w' l:=by
 have d:aU (λk=>¬w'.heap[k]?=w.heap[k]?) w w':=⟨a.os,a.tape,a.output,a.size,λk _ e=>Classical.not_not.1 e⟩
 exact⟨h.f.butRow d (λk _ _ _ g e=>e (a.at g (.inl rfl))),h.h.butRow d (λk _ _ _ g e=>e (a.at g (.inr (.inl rfl)))),λx hx=>(h.t x hx).but d (λq i e=>by
  obtain⟨_,_,r⟩:=(h.t x hx).bs_row q i;exact e (a.at r (.inr (.inr (.inl rfl))))),h.c⟩
theorem FF.oth (h:FF w q s)(b:F4 w w'):FF w' q s:=by
 refine⟨h.x.imp (λh=>?_) id,?_,h.tn,h.n⟩;·exact⟨eZ h.ws (λk _ _ a e=>b.block k a _ e dz),λy p=>(h.yn y p).same (λk _ _ a e=>b.block k a _ e dz),eZ h.ls (λk _ _ a e=>b.block k a _ e dz),h.w1,h.w3,h.l1,h.l3,h.n3⟩
 ·rcases h.t with h|⟨g,d,i,j,l,f,m,o⟩;·exact .inl h
  ·refine .inr ⟨g,d,i,j,l,f,?_,o⟩;obtain⟨c,e,r⟩:=m;exact⟨c,(b.block g c _ e dz).trans e,r⟩
theorem FF.weak {base base':Nat}(h:FF w base s)(a:base'<=base):FF w base' s:=
 ⟨h.x.imp (λh=>⟨iY h.ws a,λy b=>⟨iY (h.yn y b).own a,(h.yn y b).l1,(h.yn y b).l2,(h.yn y b).near⟩,iY h.ls a,h.w1,h.w3,h.l1,h.l3,h.n3⟩) id,h.t.weak a,h.tn,h.n⟩
theorem ev_ob (h:w.heap[z]?=some m.obj):w.cell? (Y z 0)=some (I m.k)/\w.cell? (Y z 1)=some (.string m.n)/\w.cell? (Y z 2)=some (.bool m.t)/\w.cell? (Y z 3)=some (.string m.x.n)/\w.cell? (Y z 4)=some (I m.x.q)/\w.cell? (Y z 5)=some (I m.x.s)/\w.cell? (Y z 6)=some (I m.x.f)/\w.cell? (Y z 7)=some (I m.x.b)/\w.cell? (Y z 8)=some (I m.x.l)/\w.cell? (Y z 9)=some (.slice m.x.wa (ln m.x.wl) m.x.wc)/\w.cell? (Y z 10)=some (.slice m.x.la (ln m.x.ll) m.x.lc)/\w.cell? (Y z 11)=some (.slice m.ta (ln m.tl) m.tc):=
 ⟨aB h rfl,aB h rfl,aB h rfl,aB h rfl,aB h rfl,aB h rfl,aB h rfl,aB h rfl,aB h rfl,aB h rfl,aB h rfl,aB h rfl⟩
theorem XU (h:w.heap[k]?=some l.obj):w.cell? (Y k 0)=some (I l.now)/\w.cell? (Y k 1)=some (.slice l.fa (ln l.fl) l.fc)/\w.cell? (Y k 2)=some (.slice l.ha (ln l.hl) l.hc):=⟨aB h rfl,aB h rfl,aB h rfl⟩
theorem aZ.setAbove (h:aZ t a w)(hq:a.heap.size<=q)(o:Nat)(u:Va):aZ t a (w.setCell (Y q o) u):=
 ⟨h.os,h.tape,h.output,nlt h.size (by show w.heap.size<=(w.heap.modify _ _).size;rw[Array.size_modify];exact nlq _),λk b c=>(bhs w (Y q o) u k (λe=>by have e':k=q:=e;omega)).trans (h.block k b c)⟩
