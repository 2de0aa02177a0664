import Derived.Test.YtoolgmmljacfmaaGreatDoorBehind
open List renaming length → ln
open Go.RowKit
namespace Go.Proofs.YtoolgmmljacfmaaGreatDoor
structure Cx where
 x:Int
 y:Int
abbrev Cx.val (c:Cx):Value:=.agg #[I c.x,I c.y]
def Cx.cells (c:Cx):List Value:=[I c.x,I c.y]
theorem Cx.cells_length (c:Cx):ln c.cells=2:=rfl
structure Yx where
 a:Option Addr
 l:List Cx
 c:Nat
abbrev Yx.val (y:Yx):Value:=.agg #[.slice y.a y.l.length y.c]
def Yx.cells (y:Yx):List Value:=[.slice y.a y.l.length y.c]
theorem Yx.cells_length (y:Yx):ln y.cells=1:=rfl
def Yx.In (w:World)(y:Yx):Prop:=Xs 2 Cx.cells w y.a y.l
theorem Yx.In.zL {w w':Wd}{y:Yx}(h:y.In w)(a:aG w w'):y.In w':=Xs.zL h a
def dV (i:Int):List Value:=[I i]
structure Wx where
 n:ByteArray
 q:Int
 s:Int
 f:Int
 b:Int
 l:Int
 wa:Option Addr
 wl:List Yx
 wc:Nat
 la:Option Addr
 ll:List Int
 lc:Nat
@[reducible] def wo (x:Wx):Obj:=.cells #[.string x.n,.int .i64 x.q,.int .i64 x.s,.int .i64 x.f,.int .i64 x.b,.int .i64 x.l,.slice x.wa x.wl.length x.wc,.slice x.la x.ll.length x.lc] 40
abbrev Wx.val (x:Wx):Value:=.agg #[.string x.n,I x.q,I x.s,I x.f,I x.b,I x.l,.slice x.wa x.wl.length x.wc,.slice x.la x.ll.length x.lc]
structure Wx.In (w:World)(x:Wx):Prop where
 ws:Xs 1 Yx.cells w x.wa x.wl
 yn:∀y∈x.wl,y.In w
 ls:Xs 1 dV w x.la x.ll
theorem Wx.In.zL {w w':Wd}{x:Wx}(h:x.In w)(a:aG w w'):x.In w':=⟨h.ws.zL a,λy m=>(h.yn y m).zL a,h.ls.zL a⟩
structure Wx.Fit (x:Wx):Prop where
 wn:x.wl.length<=1048576
 yn:∀y∈x.wl,y.l.length<=1048576
 ln:x.ll.length<=1048576
 sn:x.n.size<=9223372036854775807
def gG (c:Cx):Bool:=gW c.x c.y
def jL (a b:Cx):Bool:=decide (-1<=b.x-a.x/\b.x-a.x<=1/\-1<=b.y-a.y/\b.y-a.y<=1/\¬(b.x=a.x/\b.y=a.y))
def iR:List Cx->Bool
 |a::b::r=>jL a b&&iR (b::r)
 |_=>true
theorem qF:∀l:List Cx,iR l=true↔∀i (h:i+1<ln l),jL l[i] l[i+1]=true
 |[]=>by simp[iR]
 |[a]=>by simp[iR]
 |a::b::r=>by
  rw[iR,bat,qF (b::r)];constructor
  ·rintro⟨h,d⟩ i c;cases i with
   |zero=>exact h
   |succ i=>exact d i (by simpa using c)
  ·intro h;exact⟨h 0 sm,λi c=>h (i+1) (by simpa using c)⟩
theorem wS (l:List Cx)(i:Nat)(h:i+1<ln l)(a:jL l[i] l[i+1]=false):iR l=false:=by
 rw[befq];intro b;have:=(qF l).1 b i h;rw[a]at this;cases this
theorem jP {α:Type}(p:α->Bool)(l:List α)(k:Nat)(h:k<ln l)(a:p l[k]=false):l.all p=false:=by
 rw[befq];intro ha;have:=lat.1 ha l[k] (lgm h);rw[a]at this;cases this
theorem nJ {α:Type}(p:α->Bool)(l:List α)(k:Nat)(h:k<ln l):(l.take (k+1)).all p=((l.take k).all p&&p l[k]):=by
 rw[tsa h,laa];simp only[List.all_cons,List.all_nil,Bool.and_true]
def CS (n:Nat):Bool:=decide (2<=n/\n<=40)
def lW (l:List Cx)(j:Nat):Cx:=l[j]?.getD ⟨0,0⟩
theorem jW (l:List Cx)(j:Nat)(h:j<ln l):lW l j=l[j]:=by simp[lW,h]
def yO (fl:List Fx)(l:List Cx):Bool:=zS fl (lW l 0).x (lW l 0).y&&zS fl (lW l (l.length-1)).x (lW l (l.length-1)).y
def j9 (fl:List Fx)(l:List Cx):Bool:=CS l.length&&(l.all gG&&(iR l&&yO fl l))
def pK (n:Nat):Bool:=decide (1<=n/\n<=3)
def GJ (n:Nat):Bool:=decide (1<=n/\n<=6)
def n6 (fl:List Fx)(l:List Yx):Bool:=pK l.length&&l.all λy=>j9 fl y.l
def zD (i:Int):Bool:=decide (1<=i/\i<=6)
def jD (l:List Int):Bool:=GJ l.length&&l.all zD
def oV (x:Wx):Bool:=decide (1<=x.q/\x.q<=x.s/\x.s<=50/\0<=x.f/\x.f<=x.b/\x.b<=10000)
def tR (i:Int):Bool:=decide (0<=i/\i<=300)
def eR (fl:List Fx)(x:Wx):Bool:=bU fl&&(cO x.n&&(oV x&&(tR x.l&&(n6 fl x.wl&&jD x.ll))))
def iN (x:Wx)(late:Int):Bool:=fQ x.q 1 50&&fQ x.s 1 50&&fQ x.f 0 10000&&fQ x.b 0 10000&&fQ late 0 300
def zB (k n lev:Int):Int:=min lev (min k (n-1-k))
def mL (x:Wx)(cs:List Cx)(lev late:Int)(k:Nat):Bx:=
 let here:=zB k cs.length lev
 let bef:=if k=0 then here else zB ((k:Int)-1) cs.length lev
 ⟨(lW cs k).x,(lW cs k).y,min bef here,max bef here,x.f+late+k*x.q,x.b+late+((k:Int)+1)*x.s-1⟩
def qM (x:Wx)(cs:List Cx)(lev late:Int):List Bx:=(List.range (min cs.length 40)).map (mL x cs lev late)
def D3 (l:List Yx)(j:Nat):Yx:=l[j]?.getD ⟨none,[],0⟩
theorem zU (l:List Yx)(j:Nat)(h:j<ln l):D3 l j=l[j]:=by simp[D3,h]
def OF (l:List Int)(j:Nat):Int:=l[j]?.getD 0
theorem RA (l:List Int)(j:Nat)(h:j<ln l):OF l j=l[j]:=by simp[OF,h]
def mU (n:Nat)(i:Int):Bool:=decide (0<=i/\i<n)
def bL (x:Wx)(way lev late:Int):List Bx:=
 if mU x.wl.length way&&(mU x.ll.length lev&&iN x late)then qM x (D3 x.wl way.toNat).l (OF x.ll lev.toNat) late else[]
