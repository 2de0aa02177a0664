import Derived.Test.YtoolgmmljacfmaaGreatDoorProg
import Derived.ProofKit
import Derived.WalkKit
import Derived.IntWalk
import Derived.RangeFuncRecord
import Derived.Deep.OwnRows
import Derived.Below
import Derived.Calls
import Derived.ControlIn
import Derived.KernelRfl
set_option maxRecDepth 100000
open List renaming length → ln
namespace Go.Proofs.YtoolgmmljacfmaaGreatDoor
abbrev Wd:=World
abbrev Va:=Value
abbrev Ba:=ByteArray
abbrev Oa:=Option Addr
abbrev Y (a b:Nat):Addr:=⟨a,b,none⟩
abbrev E (a b:Nat):Value:=.pointer (some ⟨a,b,none⟩)
abbrev I (a:Int):Value:=.int .i64 a
abbrev ms:Value:=.slice none 0 0
abbrev sl (a b n c:Nat):Value:=.slice (some ⟨a,b,none⟩) n c
abbrev ya (w:World)(b:Nat):Addr:=⟨w.heap.size,b,none⟩
abbrev ea (w:World)(b:Nat):Value:=.pointer (some ⟨w.heap.size,b,none⟩)
abbrev zo:Obj:=.cells #[.int .i64 0,.slice none 0 0,.slice none 0 0] 32
abbrev rt (v:Value):Ending:=.returned v
theorem om {P:Prop}(h:P:=by omega):P:=h
theorem so {P:Prop}(h:P:=by simp;omega):P:=h
theorem aq {P:Prop}(h:P:=by assumption):P:=h
theorem dz {P:Prop}(h:P:=by decide):P:=h
theorem kr {P:Prop}(h:P:=by kernel_rfl):P:=h
theorem sm {P:Prop}(h:P:=by simp):P:=h
theorem gn {P:Prop}(h:P:=by go_num):P:=h
open Go.RowKit
variable {i b z:Nat}{w:World}{t:TypeId}{a n c d e f g k v j l m:Value}
abbrev br:=@Below.refl
abbrev wnq:=@World.alloc_heap_new
abbrev nlq:=@Nat.le_refl
abbrev halq:=@Below.heap_alloc
abbrev lgm:=@List.getElem_mem
abbrev nz:=@Nat.zero_le
abbrev lgs:=@List.getElem?_eq_some_iff
abbrev cw:=@callsIn_wide
abbrev bpr:=@bodyPost_ret
abbrev lge:=@List.getElem?_eq_getElem
abbrev lma:=@List.mem_append
abbrev lat:=@List.all_eq_true
abbrev dte:=@decide_eq_true_eq
abbrev bat:=@Bool.and_eq_true
abbrev lsz:=@List.size_toArray
abbrev llc:=@List.length_cons
abbrev lln:=@List.length_nil
abbrev ars:=@Array.replicate_succ
abbrev arz:=@Array.replicate_zero
abbrev lpt:=@List.push_toArray
abbrev lap:=@List.append_toArray
abbrev lna:=@List.nil_append
abbrev lca:=@List.cons_append
abbrev wsa:=@World.size_alloc
abbrev ltl:=@List.take_of_length_le
abbrev lds:=@List.drop_succ_cons
abbrev lts:=@List.take_succ_cons
abbrev lgo:=@List.getElem_of_mem
abbrev tsa:=@List.take_succ_eq_append_getElem
abbrev enl:=@List.eq_nil_of_length_eq_zero
abbrev bsz:=@ByteArray.size_append
abbrev bhs:=@Below.heap_setCell
abbrev lla:=@List.length_append
abbrev nlt:=@Nat.le_trans
abbrev nll:=@Nat.lt_of_lt_of_le
abbrev nza:=@Nat.zero_add
abbrev sit:=@List.setIfInBounds_toArray
abbrev beii:=@Bool.eq_iff_iff
abbrev bft:=@Bool.false_eq_true
abbrev age:=@Array.getElem?_eq_getElem
abbrev lcz:=@List.set_cons_zero
abbrev lcs:=@List.set_cons_succ
abbrev agd:=@Array.getD_eq_getD_getElem?
abbrev bfo:=@Bool.eq_false_or_eq_true
abbrev aal:=@Addr.add_lit
abbrev lmt:=@List.mem_of_mem_take
abbrev vsi:=@Value.slice.injEq
abbrev lgr:=@List.getElem?_append_right
abbrev lms:=@List.mem_singleton
abbrev ieo:=@Int.eq_ofNat_of_zero_le
abbrev befq:=@Bool.eq_false_iff
abbrev lmp:=@List.map_append
abbrev bot:=@Bool.or_eq_true
abbrev won:=@World.ownsRow_nil
abbrev llt:=@List.length_take
abbrev naz:=@Nat.add_zero
abbrev osi:=@Option.some.inj
abbrev lmr:=@List.mem_range
abbrev lmc:=@List.mem_cons
abbrev lmd:=@List.mem_of_mem_drop
abbrev lmm:=@List.mem_map
abbrev lld:=@List.length_drop
abbrev lfc:=@List.flatMap_cons
abbrev leo:=@List.length_eq_one_iff
abbrev ltg:=@List.getElem?_take_of_lt
abbrev lfa:=@List.filter_append
abbrev lnd:=@List.nodup_append
abbrev lfm:=@List.flatMap_append
abbrev lpi:=@List.length_pos_iff
abbrev ilr:=@Int.le_refl
abbrev wra:=@World.rowIs_alloc
abbrev laa:=@List.all_append
abbrev las:=@List.append_assoc
abbrev ldz:=@List.drop_zero
abbrev dfi:=@decide_eq_false_iff_not
abbrev bfn:=@beq_eq_false_iff_ne
abbrev def0:=@decide_eq_false
abbrev det:=@decide_eq_true
abbrev rtd:=@run_takeDeferred
abbrev cow:=@callsIn_of_wp
abbrev rce:=@run_callFunc_extern
abbrev lgl:=@List.getElem?_append_left
abbrev nol:=@Nat.le_of_lt
abbrev nss:=@Nat.sub_self
theorem cE {α:Type}{a:Array α}{v:α}(h:a[i]?=some v):i<a.size:=(Array.getElem?_eq_some_iff.1 h).1
theorem iT {P:Prop}(h:P∨i=b)(e:i≠b:=by decide):P:=h.resolve_right e
abbrev eD (n:Nat):Edge:={ on:=n,ground:=Ground.data}
abbrev eP (n:Nat):Edge:={ on:=n,ground:=Ground.phase}
theorem aM (h:w.heap[i]?=some (.cells #[a,n,c] t)):w.cell? ⟨i,0,none⟩=some a ∧ w.cell? ⟨i,1,none⟩=some n ∧ w.cell? ⟨i,2,none⟩=some c:=by simp[World.cell?,h]
theorem rG (h:w.heap[i]?=some (.cells #[a,n,c,d,e,f] t)):w.cell? ⟨i,0,none⟩=some a ∧ w.cell? ⟨i,1,none⟩=some n ∧ w.cell? ⟨i,2,none⟩=some c ∧ w.cell? ⟨i,3,none⟩=some d ∧ w.cell? ⟨i,4,none⟩=some e ∧ w.cell? ⟨i,5,none⟩=some f:=by simp[World.cell?,h]
theorem gT (h:w.heap[z]?=some (.cells #[a,n,c,d,e,f,g,k] t)):w.cell? ⟨z,0,none⟩=some a ∧ w.cell? ⟨z,1,none⟩=some n ∧ w.cell? ⟨z,2,none⟩=some c ∧ w.cell? ⟨z,3,none⟩=some d ∧ w.cell? ⟨z,4,none⟩=some e ∧ w.cell? ⟨z,5,none⟩=some f ∧ w.cell? ⟨z,6,none⟩=some g ∧ w.cell? ⟨z,7,none⟩=some k:=by simp[World.cell?,h]
theorem Zq {l:Array Edge}{P:Edge → Prop}(a:∀e∈l,Region.binds .any e=true → P e)(n:Nat)(h:eD n∈l:=by simp):P (eD n):=a _ h rfl
theorem cells12 (h:w.heap[z]?=some (.cells #[a,n,c,d,e,f,g,v,j,k,l,m] t)):w.cell? ⟨z,0,none⟩=some a ∧ w.cell? ⟨z,1,none⟩=some n ∧ w.cell? ⟨z,2,none⟩=some c ∧ w.cell? ⟨z,3,none⟩=some d ∧ w.cell? ⟨z,4,none⟩=some e ∧ w.cell? ⟨z,5,none⟩=some f ∧ w.cell? ⟨z,6,none⟩=some g ∧ w.cell? ⟨z,7,none⟩=some v ∧ w.cell? ⟨z,8,none⟩=some j ∧ w.cell? ⟨z,9,none⟩=some k ∧ w.cell? ⟨z,10,none⟩=some l ∧ w.cell? ⟨z,11,none⟩=some m:=by simp[World.cell?,h]
variable {w:Wd}{p t:Nat}{a:Array Va}
theorem aI {p:Prop}(h:p):Hid p:=h
theorem _root_.Go.RowKit.Hid.oQ {p:Prop}(h:Hid p):p:=h
theorem cI {A:Type}(a:A):∃b,a=b:=⟨_,rfl⟩
theorem bQ {A:Type}(a:A):∃b,b=a:=⟨_,rfl⟩
theorem jS (h:w.heap[p]?=some (.cells a t)):∀i,w.frozen? (Y p i)=false:=λi=>by simp[World.frozen?,h]
abbrev aG (w w':World):Prop:=Below w.heap.size w w'
abbrev aW (f:FuncId)(args:Array Value)(w:World)(R:Ending->World->Prop):Prop:=Calls Tryz.prog f args w R
variable {a b:Bool}{w n:Int}{B l q r:Nat}{W w1 k:Wd}{v:Va}{o:Obj}{m:Oa}
structure Bx where
 x:Int
 y:Int
 lo:Int
 hi:Int
 i:Int
 o:Int
abbrev xo (x:Bx):Obj:=.cells #[.int .i64 x.x,.int .i64 x.y,.int .i64 x.lo,.int .i64 x.hi,.int .i64 x.i,.int .i64 x.o] 91
abbrev Bx.val (b:Bx):Value:=.agg #[I b.x,I b.y,I b.lo,I b.hi,I b.i,I b.o]
def fQ (n lo hi:Int):Bool:=decide (lo<=n/\n<=hi)
def gW (x y:Int):Bool:=decide (0<=x/\x<16/\0<=y/\y<16)
def aK (b:Bx):Bool:=decide (0<=b.x/\b.x<16/\0<=b.y/\b.y<16/\0<=b.lo/\b.lo<=b.hi/\b.hi<=6/\0<=b.i/\b.i<=b.o/\b.o<=10000)
def qT (a b:Bx):Bool:=decide (a.i<=b.o/\b.i<=a.o)
def kJ (a b:Bx):Bool:=decide (a.lo<=b.hi/\b.lo<=a.hi)
def lV (a b:Bx):Bool:=decide (a.x-b.x<2/\b.x-a.x<2/\a.y-b.y<2/\b.y-a.y<2)
def dY (a b:Bx):Bool:=aK a&&aK b&&lV a b&&kJ a b&&qT a b
theorem aF (h:a=b):Ending.returned (.bool a)=rt (.bool b):=by rw[h]
theorem mC {k:IntKind}(h:w=n):Ending.returned (.int k w)=rt (.int k n):=by rw[h]
theorem rX (a:Below B W w1):(∀b o,b<B->w1.cell? (Y b o)=W.cell? (Y b o))/\(∀b o,b<B->w1.frozen? (Y b o)=W.frozen? (Y b o)):=
 ⟨λb o h=>a.cell (p:=(Y b o)) h,λb o h=>a.frozen (p:=(Y b o)) h⟩
def fX (w:World)(bl o:Nat)(b:Bx):Prop:=
 w.cell? (Y bl o)=some (I b.x)/\w.cell? (Y bl (o+1))=some (I b.y)/\w.cell? (Y bl (o+2))=some (I b.lo)/\
 w.cell? (Y bl (o+3))=some (I b.hi)/\w.cell? (Y bl (o+4))=some (I b.i)/\w.cell? (Y bl (o+5))=some (I b.o)
def jG (w:World)(ao:Option Addr)(l:List Bx):Prop:=
 (l=[])∨∃bl off,ao=some (Y bl off)/\∀k (h:k<l.length),fX w bl (off+k*6) l[k]
theorem aA {a:Addr}(h:W.cell? a=some v):a.block<W.heap.size:=by
 by_cases b:a.block<W.heap.size;·exact b
 ·simp[World.cell?,Array.getElem?_eq_none (Nat.le_of_not_lt b)]at h
theorem ctq {a:Addr}(b:aG W w1)(h:W.cell? a=some v):w1.cell? a=some v:=(b.cell (aA h)).trans h
theorem btq (b:aG W w1)(h:W.heap[B]?=some o):w1.heap[B]?=some o:=(b.block B (cE h)).trans h
theorem tqx {α:Type}{a:α}{P:Prop}(h:P):True/\a=a/\P:=⟨trivial,rfl,h⟩
theorem fX.zL {w w':Wd}{b:Bx}(h:fX w B l b)(a:aG w w'):fX w' B l b:=by
 obtain⟨e,f,g,i,j,k⟩:=h;have c:B<w.heap.size:=aA e;exact⟨(a.cell (by exact c)).trans e,(a.cell (by exact c)).trans f,(a.cell (by exact c)).trans g,(a.cell (by exact c)).trans i,(a.cell (by exact c)).trans j,(a.cell (by exact c)).trans k⟩
theorem jG.zL {w w':Wd}{l:List Bx}(h:jG w m l)(d:aG w w'):jG w' m l:=by
 rcases h with h|⟨c,a,h,e⟩;·exact Or.inl h
 ·exact Or.inr ⟨c,a,h,λk f=>(e k f).zL d⟩
theorem iH {α:Type}(p:α->Bool)(l:List α)(k:Nat)(h:k<ln l):(l.take (k+1)).any p=((l.take k).any p||p l[k]):=by
 rw[tsa h,List.any_append];simp only[List.any_cons,List.any_nil,Bool.or_false]
theorem aE (h:aG w1 W)(b:aG W k):aG w1 k:=h.trans (b.mono h.size)
theorem aC (h:aG w1 W)(o:Obj):aG w1 (W.alloc o):=h.alloc h.size o
theorem bI (h:Below B w1 W)(c:B<=w1.heap.size)(d:aG W k):Below B w1 k:=h.trans (d.mono (nlt c h.size))
theorem mG (h:Below B w1 W)(b:B<=w1.heap.size)(o:Obj):Below B w1 (W.alloc o):=h.alloc (nlt b h.size) o
theorem zH {a:Bx}(l:List Bx)(h:aK a=false):l.any (dY a)=false:=by
 rw[List.any_eq_false];intro b _;simp[dY,h]
theorem nf {b:Bool}(h:(!b)=true):b=false:=by simpa using h
theorem nt {b:Bool}(h:(!b)=false):b=true:=by simpa using h
theorem gU {α:Type}(p:α->Bool)(l:List α)(k:Nat)(h:k<ln l)(a:p l[k]=true):l.any p=true:=
 List.any_eq_true.2 ⟨l[k],lgm h,a⟩
theorem vL {b:Bx}(h:aK b=true):0<=b.x/\b.x<16/\0<=b.y/\b.y<16:=by
 simp only[aK,dte]at h;omega
def RowB (f:Nat->Value)(i:Nat)(b:Bx):Prop:=
 f (i*6)=I b.x/\f (i*6+1)=I b.y/\f (i*6+2)=I b.lo/\f (i*6+3)=I b.hi/\f (i*6+4)=I b.i/\f (i*6+5)=I b.o
def AU (w:World)(bl n:Nat)(l:List Bx)(k:Nat):Prop:=
 ∃f,w.rowIs bl 91 (n*6) f/\∀i (h:i<l.length),i<k->RowB f i l[i]
theorem AU.bxs {l:List Bx}(h:AU W B q l r)(hk:ln l<=r)(hn:ln l<=q):jG W (some (Y B 0)) l:=by
 obtain⟨f,a,o⟩:=h;refine Or.inr ⟨B,0,rfl,λi p=>?_⟩;obtain⟨c,d,e,g,j,m⟩:=o i p om;rw[nza];exact⟨by rw[a.cell om,c],by rw[a.cell om,d],by rw[a.cell om,e],by rw[a.cell om,g],by rw[a.cell om,j],by rw[a.cell om,m]⟩
theorem AU.zL {w w':Wd}{l:List Bx}(h:AU w B q l r)(c:aG w w'):AU w' B q l r:=by
 obtain⟨f,a,d⟩:=h;exact⟨f,a.of_block (c.block _ a.lt),d⟩
variable {a o sz v n k d:Nat}{c:List Va}{b:Oa}{w:Wd}
def bC (w:World)(bl o:Nat)(c:List Value):Prop:=∀j v,c[j]?=some v->w.cell? (Y bl (o+j))=some v
theorem bC.zL {w w':Wd}(h:bC w a o c)(d:aG w w'):bC w' a o c:=
 λj v b=>(d.cell (p:=(Y a (o+j))) (aA (h j v b))).trans (h j v b)
def Xs {α:Type}(sz:Nat)(c:α->List Value)(w:World)(ao:Option Addr)(l:List α):Prop:=
 l=[]∨∃bl off,ao=some (Y bl off)/\∀k (h:k<l.length),bC w bl (off+k*sz) (c l[k])
theorem Xs.zL {α:Type}{c:α->List Va}{w w':Wd}{l:List α}(h:Xs o c w b l)(e:aG w w'):Xs o c w' b l:=by
 rcases h with h|⟨d,a,h,f⟩;·exact Or.inl h
 ·exact Or.inr ⟨d,a,h,λk g=>(f k g).zL e⟩
def gD {α:Type}(t sz:Nat)(c:α->List Value)(w:World)(bl n:Nat)(l:List α)(k:Nat):Prop:=
 ∃f,w.rowIs bl t (n*sz) f/\∀i (h:i<l.length),i<k->∀j v,(c l[i])[j]?=some v->f (i*sz+j)=v
theorem gD.zL {α:Type}{c:α->List Va}{w w':Wd}{l:List α}(h:gD o sz c w v n l k)(d:aG w w'):gD o sz c w' v n l k:=by
 obtain⟨f,a,e⟩:=h;exact⟨f,a.of_block (d.block _ a.lt),e⟩
theorem IJ (sz:Nat)(h:a<n)(hj:o<sz):a*sz+o<n*sz:=by
 have:(a+1)*sz<=n*sz:=Nat.mul_le_mul_right sz om;rw[Nat.add_mul]at this;omega
theorem gD.xs {α:Type}{t sz:Nat}{c:α->List Va}{l:List α}(h:gD t sz c w d n l k)(m:∀a,ln (c a)=sz)(hk:ln l<=k)(hn:ln l<=n):Xs sz c w (some (Y d 0)) l:=by
 obtain⟨f,b,o⟩:=h;refine Or.inr ⟨d,0,rfl,λi p j v g=>?_⟩
 have e:j<sz:=by
  rw[←m l[i]];exact(lgs.1 g).1
 rw[nza,b.cell (IJ sz om e),o i p om j v g]
structure Hx where
 n:ByteArray
 ta:Option Addr
 tl:List Bx
 tc:Nat
 na:Option Addr
 nl:List Bx
 nc:Nat
abbrev ts (x:Hx):Value:=.slice x.ta x.tl.length x.tc
abbrev ns (x:Hx):Value:=.slice x.na x.nl.length x.nc
abbrev ho (x:Hx):Obj:=.cells #[.string x.n,ts x,ns x] 74
abbrev Hx.val (h:Hx):Value:=.agg #[.string h.n,.slice h.ta h.tl.length h.tc,.slice h.na h.nl.length h.nc]
def Hx.cells (h:Hx):List Value:=[.string h.n,.slice h.ta h.tl.length h.tc,.slice h.na h.nl.length h.nc]
theorem Hx.cells_length (h:Hx):ln h.cells=3:=rfl
def Hx.In (w:World)(h:Hx):Prop:=jG w h.ta h.tl/\jG w h.na h.nl
theorem Hx.In.zL {w w':Wd}{h:Hx}(b:h.In w)(a:aG w w'):h.In w':=⟨b.1.zL a,b.2.zL a⟩
theorem gN {h:Hx}(b:bC w a o h.cells):w.cell? (Y a o)=some (.string h.n)/\w.cell? (Y a (o+1))=some (.slice h.ta (ln h.tl) h.tc)/\w.cell? (Y a (o+2))=some (.slice h.na (ln h.nl) h.nc):=
 ⟨b 0 _ rfl,b 1 _ rfl,b 2 _ rfl⟩
variable {s m:Nat}{v:Va}{l:List Bx}{e:TypeId}{xs:List Va}
def aR (b:Bx):List Value:=[I b.x,I b.y,I b.lo,I b.hi,I b.i,I b.o]
def fG:List Bx->List Value
 |[]=>[]
 |b::r=>aR b++fG r
theorem jV:∀(l:List Bx) (b:Bx),fG (l++[b])=fG l++aR b
 |[],b=>by simp[fG]
 |a::r,b=>by simp[fG,jV r b]
theorem mR:∀(l:List Bx),ln (fG l)=ln l*6
 |[]=>rfl
 |a::r=>by rw[fG,lla,mR r];simp[aR];omega
theorem AF:∀(l:List Bx) (i:Nat) (h:i<ln l) (j:Nat),j<6->(fG l)[i*6+j]?=(aR l[i])[j]?
 |[],i,h,j,hj=>by simp at h
 |a::r,0,h,j,hj=>by
  rw[fG,lgl (by simp[aR];omega)];simp
 |a::r,i+1,h,j,hj=>by
  have h':i<ln r:=by simpa using h
  rw[fG,lgr (by simp[aR];omega)];have e:(i+1)*6+j-ln (aR a)=i*6+j:=by simp[aR];omega
  rw[e,AF r i h' j hj];rfl
def iF (frm:Int)(b:Bx):Bx:={ b with i:=max b.i frm}
def bH (frm:Int):List Bx->List Bx
 |[]=>[]
 |b::r=>if frm<=b.o then iF frm b::bH frm r else bH frm r
theorem kF (c:Int):∀(l:List Bx) (b:Bx),c<=b.o->bH c (l++[b])=bH c l++[iF c b]
 |[],b,h=>by simp[bH,h]
 |a::r,b,h=>by
  by_cases e:c<=a.o<;>simp[bH,e,kF c r b h]
theorem pP (c:Int):∀(l:List Bx) (b:Bx),¬c<=b.o->bH c (l++[b])=bH c l
 |[],b,h=>by simp[bH,h]
 |a::r,b,h=>by
  by_cases e:c<=a.o<;>simp[bH,e,pP c r b h]
theorem fW (b:Int):∀l:List Bx,ln (bH b l)<=ln l
 |[]=>nlq _
 |a::r=>by
  have:=fW b r;by_cases e:b<=a.o<;>simp[bH,e]<;>omega
theorem FZ (l:List Bx)(k:Nat)(h:k<ln l):l.take (k+1)=l.take k++[l[k]]:=tsa h
def aN (w:World)(base:Nat)(v:Value)(l:List Bx):Prop:=
 (v=ms/\l=[])∨∃g cap,v=.slice (some (Y g 0)) l.length cap/\base<=g/\l.length<=cap/\AU w g cap l l.length
theorem aN.of_owns {l:List Bx} (h:w.ownsRow s 91 6 v (ln l) (fG l)):aN w s v l:=by
 obtain⟨_,⟨m,q⟩|⟨g,c,b,m,n,o,f,_,k,r⟩⟩:=h;·exact Or.inl ⟨m,enl q⟩
 ·refine Or.inr ⟨g,c,m,n,f,λi=>b.getD i undef,⟨b,o,k,λi d=>by simp[k,d]⟩,λi d _=>?_⟩
  have a:∀j,j<6->some (b.getD (i*6+j) undef)=(aR l[i])[j]?:=by
   intro j p;rw[←AF l i d j p,←r,ltg om,Array.getElem?_toList];have e:i*6+j<b.size:=by rw[k];omega
   simp[e]
  refine⟨?_,?_,?_,?_,?_,?_⟩;·have:=a 0 om;simpa[aR]using this
  ·have:=a 1 om;simpa[aR]using this
  ·have:=a 2 om;simpa[aR]using this
  ·have:=a 3 om;simpa[aR]using this
  ·have:=a 4 om;simpa[aR]using this
  ·have:=a 5 om;simpa[aR]using this
theorem aN.zL {w w':Wd}(h:aN w s v l)(f:aG w w'):aN w' s v l:=by
 rcases h with h|⟨g,a,b,c,d,e⟩;·exact Or.inl h
 ·exact Or.inr ⟨g,a,b,c,d,e.zL f⟩
theorem aN.slice (h:aN w s v l):∃b a,v=.slice b (ln l) a/\jG w b l:=by
 rcases h with⟨h,rfl⟩|⟨g,a,c,h2,d,e⟩;·exact⟨none,0,h,Or.inl rfl⟩
 ·exact⟨_,a,c,e.bxs (nlq _) d⟩
theorem eH (h:w.ownsRow s e m v n xs)(b:v.ownBlock=some k):s<=k:=by
 obtain⟨_,⟨a,_⟩|⟨g,cap,cur,a,hb,_⟩⟩:=h;·subst a;simp[Value.ownBlock]at b
 ·subst a;simp[Value.ownBlock]at b;omega
theorem vD (W:Wd)(g:Nat)(c:g=W.heap.size)(b:Bx):∀j u,(aR b)[j]?=some u->
 (W.alloc (.cells #[I b.x,I b.y,I b.lo,I b.hi,I b.i,I b.o] 91)).cell? (((Y g 0):Addr).add j)=some u:=by
 subst c;intro j u a;match j,a with
 |0,a=>simp[aR]at a;subst a;simp[Addr.add]
 |1,a=>simp[aR]at a;subst a;simp[Addr.add]
 |2,a=>simp[aR]at a;subst a;simp[Addr.add]
 |3,a=>simp[aR]at a;subst a;simp[Addr.add]
 |4,a=>simp[aR]at a;subst a;simp[Addr.add]
 |5,a=>simp[aR]at a;subst a;simp[Addr.add]
 |n+6,a=>simp[aR]at a
theorem m9 (b:Bx):∀u∈aR b,u.oneCell'=true:=by
 intro u a;simp[aR]at a;rcases a with rfl|rfl|rfl|rfl|rfl|rfl<;>rfl
variable {b:Nat}
def aJ {α:Type}(c:α->List Value)(l:List α):List Value:=l.flatMap c
theorem eL {α:Type}(c:α->List Va)(l r:List α):aJ c (l++r)=aJ c l++aJ c r:=lfm
theorem lL {α:Type}(c:α->List Va)(a:α):aJ c [a]=c a:=by simp[aJ]
theorem cP {α:Type}{c:α->List Va}(b:∀a,ln (c a)=sz):∀l:List α,ln (aJ c l)=ln l*sz
 |[]=>by simp[aJ]
 |a::r=>by
  have:=cP b r;simp only[aJ,lfc,lla,llc]at this ⊢;rw[b,this,Nat.add_mul];omega
theorem wZ {α:Type}{c:α->List Va}(b:∀a,ln (c a)=sz):∀(l:List α) (i:Nat) (h:i<ln l) (j:Nat),j<sz->(aJ c l)[i*sz+j]?=(c l[i])[j]?
 |[],i,h,j,hj=>by simp at h
 |a::r,0,h,j,hj=>by
  simp only[aJ,lfc];rw[lgl (by rw[b];omega)];simp
 |a::r,i+1,h,j,hj=>by
  have h':i<ln r:=by simpa using h
  have:=wZ b r i h' j hj;simp only[aJ,lfc]at this ⊢;rw[lgr (by rw[b,Nat.add_mul];omega),b,show(i+1)*sz+j-sz=i*sz+j by rw[Nat.add_mul];omega,this];simp
theorem iV {α:Type} {c:α->List Va} (r:∀a,ln (c a)=sz) {l:List α} (h:w.ownsRow z e sz v (ln l) (aJ c l)):
 (v=ms/\l=[])∨∃g b,v=.slice (some (Y g 0)) (ln l) b/\z<=g/\(ln l)<=b/\gD e sz c w g b l (ln l):=by
 obtain⟨_,⟨q,x⟩|⟨g,b,d,q,s,t,o,_,p,y⟩⟩:=h;·exact Or.inl ⟨q,enl x⟩
 ·refine Or.inr ⟨g,b,q,s,o,λi=>d.getD i undef,⟨d,t,p,λi m=>by simp[p,m]⟩,λi m _ j u n=>?_⟩;have f:j<sz:=by rw[←r l[i]];exact(lgs.1 n).1
  rw[←wZ r l i m j f,←y,ltg (IJ sz m f),Array.getElem?_toList]at n;have k:i*sz+j<d.size:=by rw[p];exact IJ sz om f
  simp only[age k,Option.some.injEq]at n;simp[k,n]
theorem mD {α:Type} {c:α->List Va} {sz:Nat} (k:∀a,ln (c a)=sz) {l:List α} (h:w.ownsRow z e sz v (ln l) (aJ c l)):
 ∃i b,v=.slice i (ln l) b/\Xs sz c w i l/\(ln l)<=b:=by
 rcases iV k h with⟨f,d⟩|⟨g,b,f,_,j,m⟩;·exact⟨none,0,by rw[f,d];rfl,.inl d,by rw[d];exact nz _⟩
 ·exact⟨_,b,f,m.xs k (nlq _) j,j⟩
theorem nA {α:Type} {c:α->List Va} (i:∀a,ln (c a)=sz) (n:0<sz) {l:List α} (h:∀k (h:k<ln l),bC w z (b+k*sz) (c l[k])):
 ∀j u,(aJ c l)[j]?=some u->w.cell? (((Y z b):Addr).add j)=some u:=by
 intro j u d;have f:j<ln l*sz:=by rw[←cP i l];exact(lgs.1 d).1
 have m:j/sz<ln l:=Nat.div_lt_of_lt_mul (by rw[Nat.mul_comm];exact f);have o:j%sz<sz:=Nat.mod_lt _ n;have e:j=j/sz*sz+j%sz:=by rw[Nat.mul_comm];exact(Nat.div_add_mod j sz).symm
 rw[e,wZ i l _ m _ o]at d;have:=h _ m _ u d;rw[aal,e,←Nat.add_assoc];exact this
end Go.Proofs.YtoolgmmljacfmaaGreatDoor
namespace Go.Proofs.YtoolgmmljacfmaaGreatDoor
variable {n d:Int}{p q:Int → Prop}
structure Sp where
 lo:Int
 hi:Int
abbrev Sp.val (s:Sp):Value:=.agg #[I s.lo,I s.hi]
def Sp.cells (s:Sp):List Value:=[I s.lo,I s.hi]
def i8 (l:List Sp)(n:Int):Prop:=∃s∈l,s.lo<=n/\n<=s.hi
theorem sC (n:Int):¬i8 [] n:=by rintro⟨s,a,_⟩;simp at a
theorem eS {l r:List Sp}:i8 (l++r) n↔i8 l n∨i8 r n:=by
 constructor
 ·rintro⟨s,a,h⟩;rcases lma.1 a with h'|h';·exact .inl ⟨s,h',h⟩
  ·exact .inr ⟨s,h',h⟩
 ·rintro(⟨s,a,h⟩|⟨s,a,h⟩);·exact⟨s,lma.2 (.inl a),h⟩
  ·exact⟨s,lma.2 (.inr a),h⟩
theorem nT {s:Sp}:i8 [s] n↔s.lo<=n/\n<=s.hi:=by
 constructor;·rintro⟨t,a,h⟩;simp at a;subst a;exact h
 ·intro h;exact⟨s,sm,h⟩
abbrev lD (a b:Sp):Prop:=a.hi+1<b.lo
structure kZ (l:List Sp):Prop where
 ne:∀s∈l,s.lo<=s.hi
 sep:l.Pairwise lD
theorem tC:kZ []:=⟨sm,List.Pairwise.nil⟩
theorem kZ.snoc {l:List Sp}{s:Sp}(h:kZ (l++[s])):kZ l/\s.lo<=s.hi/\∀a∈l,lD a s:=by
 obtain⟨b,h2,c⟩:=List.pairwise_append.1 h.sep;exact⟨⟨λa ha=>h.ne a (by simp[ha]),b⟩,h.ne s sm,λa ha=>c a ha s sm⟩
theorem kZ.add {l:List Sp}{s:Sp}(h:kZ l)(d:s.lo<=s.hi)(ha:∀a∈l,lD a s):kZ (l++[s]):=
 ⟨λa m=>by rcases lma.1 m with m|m;exact h.ne a m;simp at m;subst m;exact d,List.pairwise_append.2 ⟨h.sep,sm,λa m b c=>by simp at c;subst c;exact ha a m⟩⟩
structure rS (m0:Sp)(p A B:List Sp)(m:Sp):Prop where
 ca:kZ A
 cb:kZ B
 am:∀a∈A,lD a m
 mb:∀b∈B,lD m b
 ne:m.lo<=m.hi
 sa:∀a∈A,a∈p
 sb:∀b∈B,b∈p
 mem:∀n,(i8 A n∨(m.lo<=n/\n<=m.hi)∨i8 B n)↔(i8 p n∨(m0.lo<=n/\n<=m0.hi))
 inb:∀c d:Int,c<=m0.lo->m0.hi<=d->(∀s∈p,c<=s.lo/\s.hi<=d)->c<=m.lo/\m.hi<=d
 ln:A.length+B.length<=p.length
theorem OE (m:Sp)(h:m.lo<=m.hi):rS m [] [] [] m:=
 ⟨tC,tC,sm,sm,h,sm,sm,λn=>by simp[sC],λc d a b _=>⟨a,b⟩,sm⟩
theorem rS.ahead {f m s:Sp}{p A B:List Sp}(h:rS f p A B m)(o:kZ (p++[s]))(e:s.hi+1<m.lo):rS f (p++[s]) (A++[s]) B m:=by
 obtain⟨_,q,r⟩:=o.snoc;refine⟨h.ca.add q (λa ha=>r a (h.sa a ha)),h.cb,λa ha=>?_,h.mb,h.ne,λa ha=>?_,λb l=>by simp[h.sb b l],λn=>?_,λc d i j k=>h.inb c d i j (λs e=>k s (by simp[e])),by have:=h.ln;simp;omega⟩
 ·rcases lma.1 ha with m|m;·exact h.am a m
  ·simp at m;subst m;exact e
 ·rcases lma.1 ha with m|m;·simp[h.sa a m]
  ·simp at m;simp[m]
 ·have:=h.mem n;rw[eS,eS];constructor
  ·rintro((g|g)|g|g)
   ·rcases this.1 (.inl g)with g|g;·exact .inl (.inl g)
    ·exact .inr g
   ·exact .inl (.inr g)
   ·rcases this.1 (.inr (.inl g))with g|g;·exact .inl (.inl g)
    ·exact .inr g
   ·rcases this.1 (.inr (.inr g))with g|g;·exact .inl (.inl g)
    ·exact .inr g
  ·rintro((g|g)|g)
   ·rcases this.2 (.inl g)with g|g|g;·exact .inl (.inl g)
    ·exact .inr (.inl g)
    ·exact .inr (.inr g)
   ·exact .inl (.inr g)
   ·rcases this.2 (.inr g)with g|g|g;·exact .inl (.inl g)
    ·exact .inr (.inl g)
    ·exact .inr (.inr g)
theorem rS.behind {f m s:Sp}{p A B:List Sp}(h:rS f p A B m)(o:kZ (p++[s]))(e:m.hi+1<s.lo):rS f (p++[s]) A (B++[s]) m:=by
 obtain⟨_,q,r⟩:=o.snoc;refine⟨h.ca,h.cb.add q (λa ha=>r a (h.sb a ha)),h.am,λa ha=>?_,h.ne,λb l=>by simp[h.sa b l],λa ha=>?_,λn=>?_,λc d i j k=>h.inb c d i j (λs e=>k s (by simp[e])),by have:=h.ln;simp;omega⟩
 ·rcases lma.1 ha with m|m;·exact h.mb a m
  ·simp at m;subst m;exact e
 ·rcases lma.1 ha with m|m;·simp[h.sb a m]
  ·simp at m;simp[m]
 ·have:=h.mem n;rw[eS,eS];constructor
  ·rintro(g|g|(g|g))
   ·rcases this.1 (.inl g)with g|g;·exact .inl (.inl g)
    ·exact .inr g
   ·rcases this.1 (.inr (.inl g))with g|g;·exact .inl (.inl g)
    ·exact .inr g
   ·rcases this.1 (.inr (.inr g))with g|g;·exact .inl (.inl g)
    ·exact .inr g
   ·exact .inl (.inr g)
  ·rintro((g|g)|g)
   ·rcases this.2 (.inl g)with g|g|g;·exact .inl g
    ·exact .inr (.inl g)
    ·exact .inr (.inr (.inl g))
   ·exact .inr (.inr (.inr g))
   ·rcases this.2 (.inr g)with g|g|g;·exact .inl g
    ·exact .inr (.inl g)
    ·exact .inr (.inr (.inl g))
theorem rS.join {k m s:Sp}{p A B:List Sp}(h:rS k p A B m)(q:kZ (p++[s]))(h1:¬s.hi+1<m.lo)(h2:¬m.hi+1<s.lo):rS k (p++[s]) A B ⟨min m.lo s.lo,max m.hi s.hi⟩:=by
 obtain⟨hcp,hn,j⟩:=q.snoc;have hne:=h.ne;refine⟨h.ca,h.cb,λa ha=>?_,λb e=>?_,by show min m.lo s.lo<=max m.hi s.hi;omega,λa ha=>by simp[h.sa a ha],λa ha=>by simp[h.sb a ha],λn=>?_,λc d l o i=>?_,by have:=h.ln;simp;omega⟩
 ·have a1:=h.am a ha;have a2:=j a (h.sa a ha);unfold lD at*;show a.hi+1<min m.lo s.lo;omega
 ·have b1:=h.mb b e;have b2:=j b (h.sb b e);have b3:=h.cb.ne b e;unfold lD at*;omega
 ·have:=h.mem n;rw[eS,nT];show(i8 A n∨(min m.lo s.lo<=n/\n<=max m.hi s.hi)∨i8 B n)↔_;have f:(min m.lo s.lo<=n/\n<=max m.hi s.hi)↔((m.lo<=n/\n<=m.hi)∨(s.lo<=n/\n<=s.hi)):=om;rw[f];constructor
  ·rintro(g|(g|g)|g)
   ·rcases this.1 (.inl g)with g|g;·exact .inl (.inl g)
    ·exact .inr g
   ·rcases this.1 (.inr (.inl g))with g|g;·exact .inl (.inl g)
    ·exact .inr g
   ·exact .inl (.inr g)
   ·rcases this.1 (.inr (.inr g))with g|g;·exact .inl (.inl g)
    ·exact .inr g
  ·rintro((g|g)|g)
   ·rcases this.2 (.inl g)with g|g|g;·exact .inl g
    ·exact .inr (.inl (.inl g))
    ·exact .inr (.inr g)
   ·exact .inr (.inl (.inr g))
   ·rcases this.2 (.inr g)with g|g|g;·exact .inl g
    ·exact .inr (.inl (.inl g))
    ·exact .inr (.inr g)
 ·have i1:=h.inb c d l o (λs r=>i s (by simp[r]));have i2:=i s sm;show c<=min m.lo s.lo/\max m.hi s.hi<=d;omega
theorem rS.canon {f m:Sp}{p A B:List Sp}(h:rS f p A B m):kZ (A++[m]++B):=by
 have c:=h.ca.add h.ne h.am;refine⟨λs e=>?_,List.pairwise_append.2 ⟨c.sep,h.cb.sep,λa ha b d=>?_⟩⟩
 ·rcases lma.1 e with g|g;·exact c.ne s g
  ·exact h.cb.ne s g
 ·have b1:=h.mb b d;rcases lma.1 ha with g|g
  ·have a1:=h.am a g;have:=h.ne;unfold lD at*;omega
  ·simp at g;subst g;exact b1
theorem rS.memAll {a m:Sp}{p A B:List Sp}(h:rS a p A B m)(n:Int):i8 (A++[m]++B) n↔(i8 p n∨(a.lo<=n/\n<=a.hi)):=by
 rw[eS,eS,nT,←h.mem n,or_assoc]
theorem rS.bound {b m:Sp}{p A B:List Sp}(h:rS b p A B m)(e:n<=b.lo)(f:b.hi<=d)(a:∀s∈p,n<=s.lo/\s.hi<=d):∀s∈A++[m]++B,n<=s.lo/\s.hi<=d:=by
 intro s i;rcases lma.1 i with g|g
 ·rcases lma.1 g with g|g;·exact a s (h.sa s g)
  ·simp at g;subst g;exact h.inb n d e f a
 ·exact a s (h.sb s g)
structure DM (most:Int)(l:List Sp):Prop where
 c:kZ l
 b:∀s∈l,0<=s.lo/\s.hi<=most
theorem YF (a:Int):DM a []:=⟨tC,sm⟩
theorem kV:∀(l:List Sp) (c d:Int),kZ l->(∀s∈l,c<=s.lo/\s.hi<=d)->(ln l:Int)<=max 0 (d+1-c)
 |[],c,d,_,_=>by simp;omega
 |a::r,c,d,h,hb=>by
  have ha:=hb a sm;have hn:=h.ne a sm;have b:=List.pairwise_cons.1 h.sep;have:=kV r (a.hi+1) d ⟨λs m=>h.ne s (by simp[m]),b.2⟩ (λs m=>⟨by have:=b.1 s m;unfold lD at this;omega,(hb s (by simp[m])).2⟩);simp only[llc];omega
theorem DM.len {l:List Sp}(h:DM n l)(hm:n<=300):ln l<=301:=by
 have:=kV l 0 n h.c h.b;omega
theorem DO:∀(l m:List Sp),kZ l->kZ m->(∀n,i8 l n↔i8 m n)->l=m
 |[],[],_,_,_=>rfl
 |[],b::s,_,hm,h=>absurd ((h b.lo).2 ⟨b,sm,om,hm.ne b sm⟩) (sC _)
 |a::r,[],hl,_,h=>absurd ((h a.lo).1 ⟨a,sm,om,hl.ne a sm⟩) (sC _)
 |a::r,b::s,hl,hm,h=>by
  have y:=hl.ne a sm;have z:=hm.ne b sm;have v:=List.pairwise_cons.1 hl.sep;have w:=List.pairwise_cons.1 hm.sep
  have d:∀n,i8 (a::r) n->a.lo<=n/\(n<=a.hi∨a.hi+1<n):=by
   rintro n ⟨t,c,g⟩;rcases lmc.1 c with rfl|c;·exact ⟨g.1,.inl g.2⟩
   ·have:=v.1 t c;unfold lD at this;exact ⟨om,.inr om⟩
  have e:∀n,i8 (b::s) n->b.lo<=n/\(n<=b.hi∨b.hi+1<n):=by
   rintro n ⟨t,c,g⟩;rcases lmc.1 c with rfl|c;·exact ⟨g.1,.inl g.2⟩
   ·have:=w.1 t c;unfold lD at this;exact ⟨om,.inr om⟩
  have i:∀n,a.lo<=n->n<=a.hi->i8 (a::r) n:=λn k o=>⟨a,sm,k,o⟩;have fQ:∀n,b.lo<=n->n<=b.hi->i8 (b::s) n:=λn k o=>⟨b,sm,k,o⟩
  have e1:a.lo=b.lo:=by
   have x1:=(d _ ((h b.lo).2 (fQ _ om z))).1;have x2:=(e _ ((h a.lo).1 (i _ om y))).1;omega
  have e2:a.hi=b.hi:=by
   rcases (by omega:a.hi<b.hi∨a.hi=b.hi∨b.hi<a.hi) with g|g|g;·have:=(d _ ((h (a.hi+1)).2 (fQ _ om om))).2;omega
   ·exact g
   ·have:=(e _ ((h (b.hi+1)).1 (i _ om om))).2;omega
  have j:a=b:=by cases a;cases b;simp_all
  subst j
  have x:r=s:=DO r s ⟨λt m=>hl.ne t (by simp [m]),v.2⟩ ⟨λt m=>hm.ne t (by simp [m]),w.2⟩ λn=>by
   constructor
   ·rintro ⟨t,c,g⟩;have q:=v.1 t c;obtain ⟨u,f,p⟩:=(h n).1 ⟨t,by simp [c],g⟩;rcases lmc.1 f with rfl|f;·unfold lD at q;omega
    ·exact ⟨u,f,p⟩
   ·rintro ⟨t,c,g⟩;have q:=w.1 t c;obtain ⟨u,f,p⟩:=(h n).2 ⟨t,by simp [c],g⟩;rcases lmc.1 f with rfl|f;·unfold lD at q;omega
    ·exact ⟨u,f,p⟩
  rw [x]
def EE (most:Int)(bar:Int->Prop):Option Int->Prop
 |some d=>0<=d/\d<=most/\¬bar d/\∀e,0<=e->e<d->bar e
 |none=>∀e,0<=e->e<=most->bar e
theorem SV (h:∀d,0<=d->d<=n->(p d↔q d)):∀{a b:Option Int},EE n p a->EE n q b->a=b
 |none,none,_,_=>rfl
 |some d,none,h1,h2=>absurd ((h d h1.1 h1.2.1).2 (h2 d h1.1 h1.2.1)) h1.2.2.1
 |none,some d,h1,h2=>absurd ((h d h2.1 h2.2.1).1 (h1 d h2.1 h2.2.1)) h2.2.2.1
 |some d,some e,h1,h2=>by
  rcases(by omega:d<e∨d=e∨e<d)with g|g|g;·exact absurd ((h d h1.1 h1.2.1).2 (h2.2.2.2 d h1.1 g)) h1.2.2.1
  ·rw[g]
  ·exact absurd ((h e h2.1 h2.2.1).1 (h1.2.2.2 e h2.1 g)) h2.2.2.1
structure J2 (l p:List Sp)(least:Int):Prop where
 lo:0<=least
 all:∀e,0<=e->e<least->i8 l e
 no:¬i8 p least
