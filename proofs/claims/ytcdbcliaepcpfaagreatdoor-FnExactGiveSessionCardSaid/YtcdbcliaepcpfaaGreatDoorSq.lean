import Derived.RangeFuncRecord
import Derived.WalkKit
import Derived.Deep.OwnRows
import Derived.Test.YtcdbcliaepcpfaaGreatDoorProg
import Derived.Below
import Derived.Calls
import Derived.ControlIn
import Derived.KernelRfl
namespace Go.Proofs.YtcdbcliaepcpfaaGreatDoor
open Go.RowKit
abbrev br:=@Below.refl
abbrev wnq:=@World.alloc_heap_new
abbrev nlq:=@Nat.le_refl
abbrev halq:=@Below.heap_alloc
abbrev lgm:=@List.getElem_mem
abbrev nz:=@Nat.zero_le
abbrev lgs:=@List.getElem?_eq_some_iff
abbrev cw:=@callsIn_wide
abbrev bpr:=@bodyPost_ret
abbrev lge:=@List.getElem?_eq_getElem
abbrev lma:=@List.mem_append
abbrev lat:=@List.all_eq_true
abbrev dte:=@decide_eq_true_eq
abbrev bat:=@Bool.and_eq_true
abbrev lsz:=@List.size_toArray
abbrev llc:=@List.length_cons
abbrev lln:=@List.length_nil
abbrev ars:=@Array.replicate_succ
abbrev arz:=@Array.replicate_zero
abbrev lpt:=@List.push_toArray
abbrev lap:=@List.append_toArray
abbrev lna:=@List.nil_append
abbrev lca:=@List.cons_append
abbrev wsa:=@World.size_alloc
abbrev ltl:=@List.take_of_length_le
abbrev lds:=@List.drop_succ_cons
abbrev lts:=@List.take_succ_cons
abbrev lgo:=@List.getElem_of_mem
theorem bU {α:Type}{a:Array α}{i:Nat}{v:α}(h:a[i]?=some v):i<a.size:=(Array.getElem?_eq_some_iff.1 h).1
theorem iF {P:Prop}{a b:Nat}(h:P∨a=b)(e:a≠b:=by decide):P:=h.resolve_right e
abbrev eD (n:Nat):Edge:={ on:=n,ground:=Ground.data}
abbrev eP (n:Nat):Edge:={ on:=n,ground:=Ground.phase}
theorem aM {w:World}{z:Nat}{t:TypeId}{a b c:Value}(h:w.heap[z]?=some (.cells #[a,b,c] t)):w.cell? ⟨z,0,none⟩=some a ∧ w.cell? ⟨z,1,none⟩=some b ∧ w.cell? ⟨z,2,none⟩=some c:=by simp[World.cell?,h]
theorem vT {w:World}{z:Nat}{t:TypeId}{a b c d e f:Value}(h:w.heap[z]?=some (.cells #[a,b,c,d,e,f] t)):w.cell? ⟨z,0,none⟩=some a ∧ w.cell? ⟨z,1,none⟩=some b ∧ w.cell? ⟨z,2,none⟩=some c ∧ w.cell? ⟨z,3,none⟩=some d ∧ w.cell? ⟨z,4,none⟩=some e ∧ w.cell? ⟨z,5,none⟩=some f:=by simp[World.cell?,h]
theorem gJ {w:World}{z:Nat}{t:TypeId}{a b c d e f g i:Value}(h:w.heap[z]?=some (.cells #[a,b,c,d,e,f,g,i] t)):w.cell? ⟨z,0,none⟩=some a ∧ w.cell? ⟨z,1,none⟩=some b ∧ w.cell? ⟨z,2,none⟩=some c ∧ w.cell? ⟨z,3,none⟩=some d ∧ w.cell? ⟨z,4,none⟩=some e ∧ w.cell? ⟨z,5,none⟩=some f ∧ w.cell? ⟨z,6,none⟩=some g ∧ w.cell? ⟨z,7,none⟩=some i:=by simp[World.cell?,h]
theorem Zq {l:Array Edge}{P:Edge → Prop}(a:∀e∈l,Region.binds .any e=true → P e)(n:Nat)(h:eD n∈l:=by simp):P (eD n):=a _ h rfl
theorem ZE {w:World}{z:Nat}{t:TypeId}{a b c d e f g i j k l m:Value}(h:w.heap[z]?=some (.cells #[a,b,c,d,e,f,g,i,j,k,l,m] t)):w.cell? ⟨z,0,none⟩=some a ∧ w.cell? ⟨z,1,none⟩=some b ∧ w.cell? ⟨z,2,none⟩=some c ∧ w.cell? ⟨z,3,none⟩=some d ∧ w.cell? ⟨z,4,none⟩=some e ∧ w.cell? ⟨z,5,none⟩=some f ∧ w.cell? ⟨z,6,none⟩=some g ∧ w.cell? ⟨z,7,none⟩=some i ∧ w.cell? ⟨z,8,none⟩=some j ∧ w.cell? ⟨z,9,none⟩=some k ∧ w.cell? ⟨z,10,none⟩=some l ∧ w.cell? ⟨z,11,none⟩=some m:=by simp[World.cell?,h]
theorem aG {p:Prop}(h:p):Hid p:=h
theorem _root_.Go.RowKit.Hid.oQ {p:Prop}(h:Hid p):p:=h
theorem cK {A:Type}(a:A):∃b,a=b:=⟨_,rfl⟩
theorem bP {A:Type}(a:A):∃b,b=a:=⟨_,rfl⟩
theorem iQ {w:World}{p t:Nat}{a:Array Value}(h:w.heap[p]?=some (.cells a t)):∀i,w.frozen? ⟨p,i,none⟩=false:=λi=>by simp[World.frozen?,h]
abbrev aF (w w':World):Prop:=Below w.heap.size w w'
abbrev aY (f:FuncId)(args:Array Value)(w:World)(R:Ending->World->Prop):Prop:=Calls Tryz.prog f args w R
set_option maxRecDepth 100000
structure Bx where
 x:Int
 y:Int
 lo:Int
 hi:Int
 i:Int
 o:Int
abbrev Bx.val (b:Bx):Value:=.agg #[.int .i64 b.x,.int .i64 b.y,.int .i64 b.lo,.int .i64 b.hi,.int .i64 b.i,.int .i64 b.o]
def fO (n lo hi:Int):Bool:=decide (lo<=n/\n<=hi)
def iD (x y:Int):Bool:=decide (0<=x/\x<16/\0<=y/\y<16)
def aK (b:Bx):Bool:=decide (0<=b.x/\b.x<16/\0<=b.y/\b.y<16/\0<=b.lo/\b.lo<=b.hi/\b.hi<=6/\0<=b.i/\b.i<=b.o/\b.o<=10000)
def pO (a b:Bx):Bool:=decide (a.i<=b.o/\b.i<=a.o)
def jS (a b:Bx):Bool:=decide (a.lo<=b.hi/\b.lo<=a.hi)
def lL (a b:Bx):Bool:=decide (a.x-b.x<2/\b.x-a.x<2/\a.y-b.y<2/\b.y-a.y<2)
def dQ (a b:Bx):Bool:=aK a&&aK b&&lL a b&&jS a b&&pO a b
theorem aD {a b:Bool}(h:a=b):Ending.returned (.bool a)=.returned (.bool b):=by rw[h]
theorem oO {k:IntKind}{a b:Int}(h:a=b):Ending.returned (.int k a)=.returned (.int k b):=by rw[h]
theorem qV {B:Nat}{W a:World}(c:Below B W a):(∀b o,b<B->a.cell? ⟨b,o,none⟩=W.cell? ⟨b,o,none⟩)/\(∀b o,b<B->a.frozen? ⟨b,o,none⟩=W.frozen? ⟨b,o,none⟩):=
 ⟨λb o h=>c.cell (p:=⟨b,o,none⟩) h,λb o h=>c.frozen (p:=⟨b,o,none⟩) h⟩
def fL (w:World)(bl o:Nat)(b:Bx):Prop:=
 w.cell? ⟨bl,o,none⟩=some (.int .i64 b.x)/\w.cell? ⟨bl,o+1,none⟩=some (.int .i64 b.y)/\w.cell? ⟨bl,o+2,none⟩=some (.int .i64 b.lo)/\
 w.cell? ⟨bl,o+3,none⟩=some (.int .i64 b.hi)/\w.cell? ⟨bl,o+4,none⟩=some (.int .i64 b.i)/\w.cell? ⟨bl,o+5,none⟩=some (.int .i64 b.o)
def jJ (w:World)(ao:Option Addr)(l:List Bx):Prop:=
 (l=[])∨∃bl off,ao=some ⟨bl,off,none⟩/\∀k (h:k<l.length),fL w bl (off+k*6) l[k]
theorem aA {w:World}{a:Addr}{v:Value}(h:w.cell? a=some v):a.block<w.heap.size:=by
 by_cases b:a.block<w.heap.size;·exact b
 ·simp[World.cell?,Array.getElem?_eq_none (Nat.le_of_not_lt b)]at h
theorem fL.zL {w w':World}{d o:Nat}{b:Bx}(h:fL w d o b)(a:aF w w'):fL w' d o b:=by
 obtain⟨e,f,g,i,j,k⟩:=h;have c:d<w.heap.size:=aA e;exact⟨(a.cell (by exact c)).trans e,(a.cell (by exact c)).trans f,(a.cell (by exact c)).trans g,(a.cell (by exact c)).trans i,(a.cell (by exact c)).trans j,(a.cell (by exact c)).trans k⟩
theorem jJ.zL {w w':World}{b:Option Addr}{l:List Bx}(h:jJ w b l)(d:aF w w'):jJ w' b l:=by
 rcases h with h|⟨c,a,h,e⟩;·exact Or.inl h
 ·exact Or.inr ⟨c,a,h,λk f=>(e k f).zL d⟩
theorem gQ {α:Type}(p:α->Bool)(l:List α)(k:Nat)(h:k<l.length):(l.take (k+1)).any p=((l.take k).any p||p l[k]):=by
 rw[List.take_succ_eq_append_getElem h,List.any_append];simp only[List.any_cons,List.any_nil,Bool.or_false]
theorem aC {w W a:World}(h:aF w W)(b:aF W a):aF w a:=h.trans (b.mono h.size)
theorem aB {w W:World}(h:aF w W)(o:Obj):aF w (W.alloc o):=h.alloc h.size o
theorem bL {B:Nat}{a W b:World}(h:Below B a W)(c:B<=a.heap.size)(d:aF W b):Below B a b:=h.trans (d.mono (Nat.le_trans c h.size))
theorem lP {B:Nat}{a W:World}(h:Below B a W)(b:B<=a.heap.size)(o:Obj):Below B a (W.alloc o):=h.alloc (Nat.le_trans b h.size) o
theorem xW {a:Bx}(l:List Bx)(h:aK a=false):l.any (dQ a)=false:=by
 rw[List.any_eq_false];intro b _;simp[dQ,h]
theorem nf {b:Bool}(h:(!b)=true):b=false:=by simpa using h
theorem nt {b:Bool}(h:(!b)=false):b=true:=by simpa using h
theorem gI {α:Type}(p:α->Bool)(l:List α)(k:Nat)(h:k<l.length)(a:p l[k]=true):l.any p=true:=
 List.any_eq_true.2 ⟨l[k],lgm h,a⟩
theorem tL {b:Bx}(h:aK b=true):0<=b.x/\b.x<16/\0<=b.y/\b.y<16:=by
 simp only[aK,dte]at h;omega
def YE (f:Nat->Value)(i:Nat)(b:Bx):Prop:=
 f (i*6)=.int .i64 b.x/\f (i*6+1)=.int .i64 b.y/\f (i*6+2)=.int .i64 b.lo/\f (i*6+3)=.int .i64 b.hi/\f (i*6+4)=.int .i64 b.i/\f (i*6+5)=.int .i64 b.o
def zP (w:World)(bl n:Nat)(l:List Bx)(k:Nat):Prop:=
 ∃f,w.rowIs bl 56 (n*6) f/\∀i (h:i<l.length),i<k->YE f i l[i]
theorem zP.bxs {w:World}{b n k:Nat}{l:List Bx}(h:zP w b n l k)(hk:l.length<=k)(hn:l.length<=n):jJ w (some ⟨b,0,none⟩) l:=by
 obtain⟨f,a,o⟩:=h;refine Or.inr ⟨b,0,rfl,λi p=>?_⟩;obtain⟨c,d,e,g,j,m⟩:=o i p (by omega);rw[Nat.zero_add];exact⟨by rw[a.cell (by omega),c],by rw[a.cell (by omega),d],by rw[a.cell (by omega),e],by rw[a.cell (by omega),g],by rw[a.cell (by omega),j],by rw[a.cell (by omega),m]⟩
theorem zP.zL {w w':World}{b n k:Nat}{l:List Bx}(h:zP w b n l k)(c:aF w w'):zP w' b n l k:=by
 obtain⟨f,a,d⟩:=h;exact⟨f,a.of_block (c.block _ a.lt),d⟩
def aR (b:Bx):List Value:=[.int .i64 b.x,.int .i64 b.y,.int .i64 b.lo,.int .i64 b.hi,.int .i64 b.i,.int .i64 b.o]
def fA:List Bx->List Value
 |[]=>[]
 |b::r=>aR b++fA r
theorem jE:∀(l:List Bx) (b:Bx),fA (l++[b])=fA l++aR b
 |[],b=>by simp[fA]
 |a::r,b=>by simp[fA,jE r b]
theorem lY:∀(l:List Bx),(fA l).length=l.length*6
 |[]=>rfl
 |a::r=>by rw[fA,List.length_append,lY r];simp[aR];omega
theorem AW:∀(l:List Bx) (i:Nat) (h:i<l.length) (j:Nat),j<6->(fA l)[i*6+j]?=(aR l[i])[j]?
 |[],i,h,j,hj=>by simp at h
 |a::r,0,h,j,hj=>by
  rw[fA,List.getElem?_append_left (by simp[aR];omega)];simp
 |a::r,i+1,h,j,hj=>by
  have h':i<r.length:=by simpa using h
  rw[fA,List.getElem?_append_right (by simp[aR];omega)];have e:(i+1)*6+j-(aR a).length=i*6+j:=by simp[aR];omega
  rw[e,AW r i h' j hj];rfl
def gW (frm:Int)(b:Bx):Bx:={ b with i:=max b.i frm}
def bI (frm:Int):List Bx->List Bx
 |[]=>[]
 |b::r=>if frm<=b.o then gW frm b::bI frm r else bI frm r
theorem jL (c:Int):∀(l:List Bx) (b:Bx),c<=b.o->bI c (l++[b])=bI c l++[gW c b]
 |[],b,h=>by simp[bI,h]
 |a::r,b,h=>by
  by_cases e:c<=a.o<;>simp[bI,e,jL c r b h]
theorem pD (c:Int):∀(l:List Bx) (b:Bx),¬c<=b.o->bI c (l++[b])=bI c l
 |[],b,h=>by simp[bI,h]
 |a::r,b,h=>by
  by_cases e:c<=a.o<;>simp[bI,e,pD c r b h]
theorem fK (b:Int):∀l:List Bx,(bI b l).length<=l.length
 |[]=>nlq _
 |a::r=>by
  have:=fK b r;by_cases e:b<=a.o<;>simp[bI,e]<;>omega
theorem DC (l:List Bx)(k:Nat)(h:k<l.length):l.take (k+1)=l.take k++[l[k]]:=List.take_succ_eq_append_getElem h
def aP (w:World)(base:Nat)(v:Value)(l:List Bx):Prop:=
 (v=.slice none 0 0/\l=[])∨∃g cap,v=.slice (some ⟨g,0,none⟩) l.length cap/\base<=g/\l.length<=cap/\zP w g cap l l.length
theorem aP.of_owns {w:World}{base:Nat}{v:Value}{l:List Bx}(h:w.ownsRow base 56 6 v l.length (fA l)):aP w base v l:=by
 obtain⟨_,⟨m,q⟩|⟨g,c,b,m,n,o,f,_,k,r⟩⟩:=h;·exact Or.inl ⟨m,List.eq_nil_of_length_eq_zero q⟩
 ·refine Or.inr ⟨g,c,m,n,f,λi=>b.getD i undef,⟨b,o,k,λi d=>by simp[k,d]⟩,λi d _=>?_⟩
  have a:∀j,j<6->some (b.getD (i*6+j) undef)=(aR l[i])[j]?:=by
   intro j p;rw[←AW l i d j p,←r,List.getElem?_take_of_lt (by omega),Array.getElem?_toList];have e:i*6+j<b.size:=by rw[k];omega
   simp[e]
  refine⟨?_,?_,?_,?_,?_,?_⟩;·have:=a 0 (by omega);simpa[aR]using this
  ·have:=a 1 (by omega);simpa[aR]using this
  ·have:=a 2 (by omega);simpa[aR]using this
  ·have:=a 3 (by omega);simpa[aR]using this
  ·have:=a 4 (by omega);simpa[aR]using this
  ·have:=a 5 (by omega);simpa[aR]using this
theorem aP.zL {w w':World}{base:Nat}{v:Value}{l:List Bx}(h:aP w base v l)(f:aF w w'):aP w' base v l:=by
 rcases h with h|⟨g,a,b,c,d,e⟩;·exact Or.inl h
 ·exact Or.inr ⟨g,a,b,c,d,e.zL f⟩
theorem aP.slice {w:World}{base:Nat}{v:Value}{l:List Bx}(h:aP w base v l):∃b a,v=.slice b l.length a/\jJ w b l:=by
 rcases h with⟨h,rfl⟩|⟨g,a,c,h2,d,e⟩;·exact⟨none,0,h,Or.inl rfl⟩
 ·exact⟨_,a,c,e.bxs (nlq _) d⟩
theorem fB {w:World}{base:Nat}{e:TypeId}{size:Nat}{v:Value}{n:Nat}{xs:List Value}(h:w.ownsRow base e size v n xs){k:Nat}(b:v.ownBlock=some k):base<=k:=by
 obtain⟨_,⟨a,_⟩|⟨g,cap,cur,a,hb,_⟩⟩:=h;·subst a;simp[Value.ownBlock]at b
 ·subst a;simp[Value.ownBlock]at b;omega
theorem uX (W:World)(g:Nat)(c:g=W.heap.size)(b:Bx):∀j u,(aR b)[j]?=some u->
 (W.alloc (.cells #[.int .i64 b.x,.int .i64 b.y,.int .i64 b.lo,.int .i64 b.hi,.int .i64 b.i,.int .i64 b.o] 56)).cell? ((⟨g,0,none⟩:Addr).add j)=some u:=by
 subst c;intro j u a;match j,a with
 |0,a=>simp[aR]at a;subst a;simp[Addr.add]
 |1,a=>simp[aR]at a;subst a;simp[Addr.add]
 |2,a=>simp[aR]at a;subst a;simp[Addr.add]
 |3,a=>simp[aR]at a;subst a;simp[Addr.add]
 |4,a=>simp[aR]at a;subst a;simp[Addr.add]
 |5,a=>simp[aR]at a;subst a;simp[Addr.add]
 |n+6,a=>simp[aR]at a
theorem mL (b:Bx):∀u∈aR b,u.oneCell'=true:=by
 intro u a;simp[aR]at a;rcases a with rfl|rfl|rfl|rfl|rfl|rfl<;>rfl
def aZ (w:World)(bl o:Nat)(c:List Value):Prop:=∀j v,c[j]?=some v->w.cell? ⟨bl,o+j,none⟩=some v
theorem aZ.zL {w w':World}{a o:Nat}{c:List Value}(h:aZ w a o c)(d:aF w w'):aZ w' a o c:=
 λj v b=>(d.cell (p:=⟨a,o+j,none⟩) (aA (h j v b))).trans (h j v b)
def Xs {α:Type}(sz:Nat)(c:α->List Value)(w:World)(ao:Option Addr)(l:List α):Prop:=
 l=[]∨∃bl off,ao=some ⟨bl,off,none⟩/\∀k (h:k<l.length),aZ w bl (off+k*sz) (c l[k])
theorem Xs.zL {α:Type}{sz:Nat}{c:α->List Value}{w w':World}{b:Option Addr}{l:List α}(h:Xs sz c w b l)(e:aF w w'):Xs sz c w' b l:=by
 rcases h with h|⟨d,a,h,f⟩;·exact Or.inl h
 ·exact Or.inr ⟨d,a,h,λk g=>(f k g).zL e⟩
def fP {α:Type}(t sz:Nat)(c:α->List Value)(w:World)(bl n:Nat)(l:List α)(k:Nat):Prop:=
 ∃f,w.rowIs bl t (n*sz) f/\∀i (h:i<l.length),i<k->∀j v,(c l[i])[j]?=some v->f (i*sz+j)=v
theorem fP.zL {α:Type}{t sz:Nat}{c:α->List Value}{w w':World}{b n k:Nat}{l:List α}(h:fP t sz c w b n l k)(d:aF w w'):fP t sz c w' b n l k:=by
 obtain⟨f,a,e⟩:=h;exact⟨f,a.of_block (d.block _ a.lt),e⟩
theorem EI (sz:Nat){i n j:Nat}(h:i<n)(hj:j<sz):i*sz+j<n*sz:=by
 have:(i+1)*sz<=n*sz:=Nat.mul_le_mul_right sz (by omega);rw[Nat.add_mul]at this;omega
theorem fP.xs {α:Type}{t sz:Nat}{c:α->List Value}{w:World}{d n k:Nat}{l:List α}(h:fP t sz c w d n l k)(m:∀a,(c a).length=sz)(hk:l.length<=k)(hn:l.length<=n):Xs sz c w (some ⟨d,0,none⟩) l:=by
 obtain⟨f,b,o⟩:=h;refine Or.inr ⟨d,0,rfl,λi p j v g=>?_⟩
 have e:j<sz:=by
  rw[←m l[i]];exact(lgs.1 g).1
 rw[Nat.zero_add,b.cell (EI sz (by omega) e),o i p (by omega) j v g]
structure Hx where
 n:ByteArray
 ta:Option Addr
 tl:List Bx
 tc:Nat
 na:Option Addr
 nl:List Bx
 nc:Nat
abbrev Hx.val (h:Hx):Value:=.agg #[.string h.n,.slice h.ta h.tl.length h.tc,.slice h.na h.nl.length h.nc]
def Hx.cells (h:Hx):List Value:=[.string h.n,.slice h.ta h.tl.length h.tc,.slice h.na h.nl.length h.nc]
theorem Hx.cells_length (h:Hx):h.cells.length=3:=rfl
def Hx.In (w:World)(h:Hx):Prop:=jJ w h.ta h.tl/\jJ w h.na h.nl
theorem Hx.In.zL {w w':World}{h:Hx}(b:h.In w)(a:aF w w'):h.In w':=⟨b.1.zL a,b.2.zL a⟩
theorem iI {w:World}{a o:Nat}{h:Hx}(b:aZ w a o h.cells):w.cell? ⟨a,o,none⟩=some (.string h.n)/\w.cell? ⟨a,o+1,none⟩=some (.slice h.ta h.tl.length h.tc)/\w.cell? ⟨a,o+2,none⟩=some (.slice h.na h.nl.length h.nc):=
 ⟨b 0 _ rfl,b 1 _ rfl,b 2 _ rfl⟩
def aI {α:Type}(c:α->List Value)(l:List α):List Value:=l.flatMap c
theorem gB {α:Type}(c:α->List Value)(l r:List α):aI c (l++r)=aI c l++aI c r:=List.flatMap_append
theorem rK {α:Type}(c:α->List Value)(a:α):aI c [a]=c a:=by simp[aI]
theorem cG {α:Type}{c:α->List Value}{sz:Nat}(b:∀a,(c a).length=sz):∀l:List α,(aI c l).length=l.length*sz
 |[]=>by simp[aI]
 |a::r=>by
  have:=cG b r;simp only[aI,List.flatMap_cons,List.length_append,llc]at this ⊢;rw[b,this,Nat.add_mul];omega
theorem wH {α:Type}{c:α->List Value}{sz:Nat}(b:∀a,(c a).length=sz):∀(l:List α) (i:Nat) (h:i<l.length) (j:Nat),j<sz->(aI c l)[i*sz+j]?=(c l[i])[j]?
 |[],i,h,j,hj=>by simp at h
 |a::r,0,h,j,hj=>by
  simp only[aI,List.flatMap_cons];rw[List.getElem?_append_left (by rw[b];omega)];simp
 |a::r,i+1,h,j,hj=>by
  have h':i<r.length:=by simpa using h
  have:=wH b r i h' j hj;simp only[aI,List.flatMap_cons]at this ⊢;rw[List.getElem?_append_right (by rw[b,Nat.add_mul];omega),b,show(i+1)*sz+j-sz=i*sz+j by rw[Nat.add_mul];omega,this];simp
theorem iY {α:Type}{c:α->List Value}{sz:Nat}(r:∀a,(c a).length=sz){w:World}{base:Nat}{e:TypeId}{v:Value}{l:List α}(h:w.ownsRow base e sz v l.length (aI c l)):
 (v=.slice none 0 0/\l=[])∨∃g b,v=.slice (some ⟨g,0,none⟩) l.length b/\base<=g/\l.length<=b/\fP e sz c w g b l l.length:=by
 obtain⟨_,⟨q,x⟩|⟨g,b,d,q,s,t,o,_,p,y⟩⟩:=h;·exact Or.inl ⟨q,List.eq_nil_of_length_eq_zero x⟩
 ·refine Or.inr ⟨g,b,q,s,o,λi=>d.getD i undef,⟨d,t,p,λi m=>by simp[p,m]⟩,λi m _ j u n=>?_⟩;have f:j<sz:=by rw[←r l[i]];exact(lgs.1 n).1
  rw[←wH r l i m j f,←y,List.getElem?_take_of_lt (EI sz m f),Array.getElem?_toList]at n;have k:i*sz+j<d.size:=by rw[p];exact EI sz (by omega) f
  simp only[Array.getElem?_eq_getElem k,Option.some.injEq]at n;simp[k,n]
theorem nI {α:Type}{c:α->List Value}{sz:Nat}(k:∀a,(c a).length=sz){w:World}{base:Nat}{e:TypeId}{v:Value}{l:List α}(h:w.ownsRow base e sz v l.length (aI c l)):
 ∃i b,v=.slice i l.length b/\Xs sz c w i l/\l.length<=b:=by
 rcases iY k h with⟨f,d⟩|⟨g,b,f,_,j,m⟩;·exact⟨none,0,by rw[f,d];rfl,.inl d,by rw[d];exact nz _⟩
 ·exact⟨_,b,f,m.xs k (nlq _) j,j⟩
theorem mG {α:Type} {c:α->List Value} {sz:Nat} (i:∀a,(c a).length=sz) (n:0<sz) {w:World} {g b:Nat} {l:List α} (h:∀k (h:k<l.length),aZ w g (b+k*sz) (c l[k])):
 ∀j u,(aI c l)[j]?=some u->w.cell? ((⟨g,b,none⟩:Addr).add j)=some u:=by
 intro j u d;have f:j<l.length*sz:=by rw[←cG i l];exact(lgs.1 d).1
 have m:j/sz<l.length:=Nat.div_lt_of_lt_mul (by rw[Nat.mul_comm];exact f);have o:j%sz<sz:=Nat.mod_lt _ n;have e:j=j/sz*sz+j%sz:=by rw[Nat.mul_comm];exact(Nat.div_add_mod j sz).symm
 rw[e,wH i l _ m _ o]at d;have:=h _ m _ u d;rw[Addr.add_lit,e,←Nat.add_assoc];exact this
end Go.Proofs.YtcdbcliaepcpfaaGreatDoor
namespace Go.Proofs.YtcdbcliaepcpfaaGreatDoor
structure Sp where
 lo:Int
 hi:Int
abbrev Sp.val (s:Sp):Value:=.agg #[.int .i64 s.lo,.int .i64 s.hi]
def Sp.cells (s:Sp):List Value:=[.int .i64 s.lo,.int .i64 s.hi]
def gS (l:List Sp)(n:Int):Prop:=∃s∈l,s.lo<=n/\n<=s.hi
theorem qI (n:Int):¬gS [] n:=by rintro⟨s,a,_⟩;simp at a
theorem eK {l r:List Sp}{n:Int}:gS (l++r) n↔gS l n∨gS r n:=by
 constructor
 ·rintro⟨s,a,h⟩;rcases lma.1 a with h'|h';·exact .inl ⟨s,h',h⟩
  ·exact .inr ⟨s,h',h⟩
 ·rintro(⟨s,a,h⟩|⟨s,a,h⟩);·exact⟨s,lma.2 (.inl a),h⟩
  ·exact⟨s,lma.2 (.inr a),h⟩
theorem mX {s:Sp}{n:Int}:gS [s] n↔s.lo<=n/\n<=s.hi:=by
 constructor;·rintro⟨t,a,h⟩;simp at a;subst a;exact h
 ·intro h;exact⟨s,by simp,h⟩
abbrev kF (a b:Sp):Prop:=a.hi+1<b.lo
structure jZ (l:List Sp):Prop where
 ne:∀s∈l,s.lo<=s.hi
 sep:l.Pairwise kF
theorem qY:jZ []:=⟨by simp,List.Pairwise.nil⟩
theorem jZ.snoc {l:List Sp}{s:Sp}(h:jZ (l++[s])):jZ l/\s.lo<=s.hi/\∀a∈l,kF a s:=by
 obtain⟨b,h2,c⟩:=List.pairwise_append.1 h.sep;exact⟨⟨λa ha=>h.ne a (by simp[ha]),b⟩,h.ne s (by simp),λa ha=>c a ha s (by simp)⟩
theorem jZ.add {l:List Sp}{s:Sp}(h:jZ l)(d:s.lo<=s.hi)(ha:∀a∈l,kF a s):jZ (l++[s]):=
 ⟨λa m=>by rcases lma.1 m with m|m;exact h.ne a m;simp at m;subst m;exact d,List.pairwise_append.2 ⟨h.sep,by simp,λa m b c=>by simp at c;subst c;exact ha a m⟩⟩
structure pQ (m0:Sp)(p A B:List Sp)(m:Sp):Prop where
 ca:jZ A
 cb:jZ B
 am:∀a∈A,kF a m
 mb:∀b∈B,kF m b
 ne:m.lo<=m.hi
 sa:∀a∈A,a∈p
 sb:∀b∈B,b∈p
 mem:∀n,(gS A n∨(m.lo<=n/\n<=m.hi)∨gS B n)↔(gS p n∨(m0.lo<=n/\n<=m0.hi))
 inb:∀c d:Int,c<=m0.lo->m0.hi<=d->(∀s∈p,c<=s.lo/\s.hi<=d)->c<=m.lo/\m.hi<=d
 ln:A.length+B.length<=p.length
theorem AC (m:Sp)(h:m.lo<=m.hi):pQ m [] [] [] m:=
 ⟨qY,qY,by simp,by simp,h,by simp,by simp,λn=>by simp[qI],λc d a b _=>⟨a,b⟩,by simp⟩
theorem pQ.ahead {f m s:Sp}{p A B:List Sp}(h:pQ f p A B m)(o:jZ (p++[s]))(e:s.hi+1<m.lo):pQ f (p++[s]) (A++[s]) B m:=by
 obtain⟨_,q,r⟩:=o.snoc;refine⟨h.ca.add q (λa ha=>r a (h.sa a ha)),h.cb,λa ha=>?_,h.mb,h.ne,λa ha=>?_,λb l=>by simp[h.sb b l],λn=>?_,λc d i j k=>h.inb c d i j (λs e=>k s (by simp[e])),by have:=h.ln;simp;omega⟩
 ·rcases lma.1 ha with m|m;·exact h.am a m
  ·simp at m;subst m;exact e
 ·rcases lma.1 ha with m|m;·simp[h.sa a m]
  ·simp at m;simp[m]
 ·have:=h.mem n;rw[eK,eK];constructor
  ·rintro((g|g)|g|g)
   ·rcases this.1 (.inl g)with g|g;·exact .inl (.inl g)
    ·exact .inr g
   ·exact .inl (.inr g)
   ·rcases this.1 (.inr (.inl g))with g|g;·exact .inl (.inl g)
    ·exact .inr g
   ·rcases this.1 (.inr (.inr g))with g|g;·exact .inl (.inl g)
    ·exact .inr g
  ·rintro((g|g)|g)
   ·rcases this.2 (.inl g)with g|g|g;·exact .inl (.inl g)
    ·exact .inr (.inl g)
    ·exact .inr (.inr g)
   ·exact .inl (.inr g)
   ·rcases this.2 (.inr g)with g|g|g;·exact .inl (.inl g)
    ·exact .inr (.inl g)
    ·exact .inr (.inr g)
theorem pQ.behind {f m s:Sp}{p A B:List Sp}(h:pQ f p A B m)(o:jZ (p++[s]))(e:m.hi+1<s.lo):pQ f (p++[s]) A (B++[s]) m:=by
 obtain⟨_,q,r⟩:=o.snoc;refine⟨h.ca,h.cb.add q (λa ha=>r a (h.sb a ha)),h.am,λa ha=>?_,h.ne,λb l=>by simp[h.sa b l],λa ha=>?_,λn=>?_,λc d i j k=>h.inb c d i j (λs e=>k s (by simp[e])),by have:=h.ln;simp;omega⟩
 ·rcases lma.1 ha with m|m;·exact h.mb a m
  ·simp at m;subst m;exact e
 ·rcases lma.1 ha with m|m;·simp[h.sb a m]
  ·simp at m;simp[m]
 ·have:=h.mem n;rw[eK,eK];constructor
  ·rintro(g|g|(g|g))
   ·rcases this.1 (.inl g)with g|g;·exact .inl (.inl g)
    ·exact .inr g
   ·rcases this.1 (.inr (.inl g))with g|g;·exact .inl (.inl g)
    ·exact .inr g
   ·rcases this.1 (.inr (.inr g))with g|g;·exact .inl (.inl g)
    ·exact .inr g
   ·exact .inl (.inr g)
  ·rintro((g|g)|g)
   ·rcases this.2 (.inl g)with g|g|g;·exact .inl g
    ·exact .inr (.inl g)
    ·exact .inr (.inr (.inl g))
   ·exact .inr (.inr (.inr g))
   ·rcases this.2 (.inr g)with g|g|g;·exact .inl g
    ·exact .inr (.inl g)
    ·exact .inr (.inr (.inl g))
theorem pQ.join {k m s:Sp}{p A B:List Sp}(h:pQ k p A B m)(q:jZ (p++[s]))(h1:¬s.hi+1<m.lo)(h2:¬m.hi+1<s.lo):pQ k (p++[s]) A B ⟨min m.lo s.lo,max m.hi s.hi⟩:=by
 obtain⟨hcp,hn,j⟩:=q.snoc;have hne:=h.ne;refine⟨h.ca,h.cb,λa ha=>?_,λb e=>?_,by show min m.lo s.lo<=max m.hi s.hi;omega,λa ha=>by simp[h.sa a ha],λa ha=>by simp[h.sb a ha],λn=>?_,λc d l o i=>?_,by have:=h.ln;simp;omega⟩
 ·have a1:=h.am a ha;have a2:=j a (h.sa a ha);unfold kF at*;show a.hi+1<min m.lo s.lo;omega
 ·have b1:=h.mb b e;have b2:=j b (h.sb b e);have b3:=h.cb.ne b e;unfold kF at*;omega
 ·have:=h.mem n;rw[eK,mX];show(gS A n∨(min m.lo s.lo<=n/\n<=max m.hi s.hi)∨gS B n)↔_;have f:(min m.lo s.lo<=n/\n<=max m.hi s.hi)↔((m.lo<=n/\n<=m.hi)∨(s.lo<=n/\n<=s.hi)):=by omega
  rw[f];constructor
  ·rintro(g|(g|g)|g)
   ·rcases this.1 (.inl g)with g|g;·exact .inl (.inl g)
    ·exact .inr g
   ·rcases this.1 (.inr (.inl g))with g|g;·exact .inl (.inl g)
    ·exact .inr g
   ·exact .inl (.inr g)
   ·rcases this.1 (.inr (.inr g))with g|g;·exact .inl (.inl g)
    ·exact .inr g
  ·rintro((g|g)|g)
   ·rcases this.2 (.inl g)with g|g|g;·exact .inl g
    ·exact .inr (.inl (.inl g))
    ·exact .inr (.inr g)
   ·exact .inr (.inl (.inr g))
   ·rcases this.2 (.inr g)with g|g|g;·exact .inl g
    ·exact .inr (.inl (.inl g))
    ·exact .inr (.inr g)
 ·have i1:=h.inb c d l o (λs r=>i s (by simp[r]));have i2:=i s (by simp);show c<=min m.lo s.lo/\max m.hi s.hi<=d;omega
theorem pQ.canon {f m:Sp}{p A B:List Sp}(h:pQ f p A B m):jZ (A++[m]++B):=by
 have c:=h.ca.add h.ne h.am;refine⟨λs e=>?_,List.pairwise_append.2 ⟨c.sep,h.cb.sep,λa ha b d=>?_⟩⟩
 ·rcases lma.1 e with g|g;·exact c.ne s g
  ·exact h.cb.ne s g
 ·have b1:=h.mb b d;rcases lma.1 ha with g|g
  ·have a1:=h.am a g;have:=h.ne;unfold kF at*;omega
  ·simp at g;subst g;exact b1
theorem pQ.memAll {a m:Sp}{p A B:List Sp}(h:pQ a p A B m)(n:Int):gS (A++[m]++B) n↔(gS p n∨(a.lo<=n/\n<=a.hi)):=by
 rw[eK,eK,mX,←h.mem n,or_assoc]
theorem pQ.bound {b m:Sp}{p A B:List Sp}(h:pQ b p A B m){c d:Int}(e:c<=b.lo)(f:b.hi<=d)(a:∀s∈p,c<=s.lo/\s.hi<=d):∀s∈A++[m]++B,c<=s.lo/\s.hi<=d:=by
 intro s i;rcases lma.1 i with g|g
 ·rcases lma.1 g with g|g;·exact a s (h.sa s g)
  ·simp at g;subst g;exact h.inb c d e f a
 ·exact a s (h.sb s g)
structure uY (most:Int)(l:List Sp):Prop where
 c:jZ l
 b:∀s∈l,0<=s.lo/\s.hi<=most
theorem T8 (a:Int):uY a []:=⟨qY,by simp⟩
theorem kE:∀(l:List Sp) (c d:Int),jZ l->(∀s∈l,c<=s.lo/\s.hi<=d)->(l.length:Int)<=max 0 (d+1-c)
 |[],c,d,_,_=>by simp;omega
 |a::r,c,d,h,hb=>by
  have ha:=hb a (by simp);have hn:=h.ne a (by simp);have b:=List.pairwise_cons.1 h.sep;have:=kE r (a.hi+1) d ⟨λs m=>h.ne s (by simp[m]),b.2⟩ (λs m=>⟨by have:=b.1 s m;unfold kF at this;omega,(hb s (by simp[m])).2⟩);simp only[llc];omega
theorem uY.len {a:Int}{l:List Sp}(h:uY a l)(hm:a<=300):l.length<=301:=by
 have:=kE l 0 a h.c h.b;omega
theorem zI:∀(l m:List Sp),jZ l->jZ m->(∀n,gS l n↔gS m n)->l=m
 |[],[],_,_,_=>rfl
 |[],b::s,_,hm,h=>absurd ((h b.lo).2 ⟨b,by simp,by omega,hm.ne b (by simp)⟩) (qI _)
 |a::r,[],hl,_,h=>absurd ((h a.lo).1 ⟨a,by simp,by omega,hl.ne a (by simp)⟩) (qI _)
 |a::r,b::s,hl,hm,h=>by
  have y:=hl.ne a (by simp);have z:=hm.ne b (by simp);have v:=List.pairwise_cons.1 hl.sep;have w:=List.pairwise_cons.1 hm.sep
  have d:∀n,gS (a::r) n->a.lo<=n/\(n<=a.hi∨a.hi+1<n):=by
   rintro n ⟨t,c,g⟩;rcases List.mem_cons.1 c with rfl|c;·exact ⟨g.1,.inl g.2⟩
   ·have:=v.1 t c;unfold kF at this;exact ⟨by omega,.inr (by omega)⟩
  have e:∀n,gS (b::s) n->b.lo<=n/\(n<=b.hi∨b.hi+1<n):=by
   rintro n ⟨t,c,g⟩;rcases List.mem_cons.1 c with rfl|c;·exact ⟨g.1,.inl g.2⟩
   ·have:=w.1 t c;unfold kF at this;exact ⟨by omega,.inr (by omega)⟩
  have i:∀n,a.lo<=n->n<=a.hi->gS (a::r) n:=λn k o=>⟨a,by simp,k,o⟩;have fO:∀n,b.lo<=n->n<=b.hi->gS (b::s) n:=λn k o=>⟨b,by simp,k,o⟩
  have e1:a.lo=b.lo:=by
   have x1:=(d _ ((h b.lo).2 (fO _ (by omega) z))).1;have x2:=(e _ ((h a.lo).1 (i _ (by omega) y))).1;omega
  have e2:a.hi=b.hi:=by
   rcases (by omega:a.hi<b.hi∨a.hi=b.hi∨b.hi<a.hi) with g|g|g;·have:=(d _ ((h (a.hi+1)).2 (fO _ (by omega) (by omega)))).2;omega
   ·exact g
   ·have:=(e _ ((h (b.hi+1)).1 (i _ (by omega) (by omega)))).2;omega
  have j:a=b:=by cases a;cases b;simp_all
  subst j
  have x:r=s:=zI r s ⟨λt m=>hl.ne t (by simp [m]),v.2⟩ ⟨λt m=>hm.ne t (by simp [m]),w.2⟩ λn=>by
   constructor
   ·rintro ⟨t,c,g⟩;have q:=v.1 t c;obtain ⟨u,f,p⟩:=(h n).1 ⟨t,by simp [c],g⟩;rcases List.mem_cons.1 f with rfl|f;·unfold kF at q;omega
    ·exact ⟨u,f,p⟩
   ·rintro ⟨t,c,g⟩;have q:=w.1 t c;obtain ⟨u,f,p⟩:=(h n).2 ⟨t,by simp [c],g⟩;rcases List.mem_cons.1 f with rfl|f;·unfold kF at q;omega
    ·exact ⟨u,f,p⟩
  rw [x]
def B9 (most:Int)(bar:Int->Prop):Option Int->Prop
 |some d=>0<=d/\d<=most/\¬bar d/\∀e,0<=e->e<d->bar e
 |none=>∀e,0<=e->e<=most->bar e
theorem P6 {c:Int}{p q:Int->Prop}(h:∀d,0<=d->d<=c->(p d↔q d)):∀{a b:Option Int},B9 c p a->B9 c q b->a=b
 |none,none,_,_=>rfl
 |some d,none,h1,h2=>absurd ((h d h1.1 h1.2.1).2 (h2 d h1.1 h1.2.1)) h1.2.2.1
 |none,some d,h1,h2=>absurd ((h d h2.1 h2.2.1).1 (h1 d h2.1 h2.2.1)) h2.2.2.1
 |some d,some e,h1,h2=>by
  rcases(by omega:d<e∨d=e∨e<d)with g|g|g;·exact absurd ((h d h1.1 h1.2.1).2 (h2.2.2.2 d h1.1 g)) h1.2.2.1
  ·rw[g]
  ·exact absurd ((h e h2.1 h2.2.1).1 (h1.2.2.2 e h2.1 g)) h2.2.2.1
structure IY (l p:List Sp)(least:Int):Prop where
 lo:0<=least
 all:∀e,0<=e->e<least->gS l e
 no:¬gS p least
end Go.Proofs.YtcdbcliaepcpfaaGreatDoor
