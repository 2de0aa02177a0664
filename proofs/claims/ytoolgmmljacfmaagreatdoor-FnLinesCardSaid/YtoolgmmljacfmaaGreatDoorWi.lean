import Derived.Test.YtoolgmmljacfmaaGreatDoorBehind
set_option maxRecDepth 100000
set_option maxHeartbeats 4000000
open List renaming length → ln
open Go.RowKit
namespace Go.Proofs.YtoolgmmljacfmaaGreatDoor
structure Cx where
 x:Int
 y:Int
abbrev Cx.val (c:Cx):Value:=.agg #[I c.x,I c.y]
def Cx.cells (c:Cx):List Value:=[I c.x,I c.y]
theorem Cx.cells_length (c:Cx):ln c.cells=2:=rfl
structure Yx where
 a:Option Addr
 l:List Cx
 c:Nat
abbrev Yx.val (y:Yx):Value:=.agg #[.slice y.a y.l.length y.c]
def Yx.cells (y:Yx):List Value:=[.slice y.a y.l.length y.c]
theorem Yx.cells_length (y:Yx):ln y.cells=1:=rfl
def Yx.In (w:World)(y:Yx):Prop:=Xs 2 Cx.cells w y.a y.l
theorem Yx.In.zL {w w':Wd}{y:Yx}(h:y.In w)(a:aG w w'):y.In w':=Xs.zL h a
def dV (i:Int):List Value:=[I i]
structure Wx where
 n:ByteArray
 q:Int
 s:Int
 f:Int
 b:Int
 l:Int
 wa:Option Addr
 wl:List Yx
 wc:Nat
 la:Option Addr
 ll:List Int
 lc:Nat
abbrev wo (x:Wx):Obj:=.cells #[.string x.n,.int .i64 x.q,.int .i64 x.s,.int .i64 x.f,.int .i64 x.b,.int .i64 x.l,.slice x.wa x.wl.length x.wc,.slice x.la x.ll.length x.lc] 40
abbrev Wx.val (x:Wx):Value:=.agg #[.string x.n,I x.q,I x.s,I x.f,I x.b,I x.l,.slice x.wa x.wl.length x.wc,.slice x.la x.ll.length x.lc]
structure Wx.In (w:World)(x:Wx):Prop where
 ws:Xs 1 Yx.cells w x.wa x.wl
 yn:∀y∈x.wl,y.In w
 ls:Xs 1 dV w x.la x.ll
theorem Wx.In.zL {w w':Wd}{x:Wx}(h:x.In w)(a:aG w w'):x.In w':=⟨h.ws.zL a,λy m=>(h.yn y m).zL a,h.ls.zL a⟩
structure Wx.Fit (x:Wx):Prop where
 wn:x.wl.length<=1048576
 yn:∀y∈x.wl,y.l.length<=1048576
 ln:x.ll.length<=1048576
 sn:x.n.size<=9223372036854775807
def gG (c:Cx):Bool:=gW c.x c.y
def jL (a b:Cx):Bool:=decide (-1<=b.x-a.x/\b.x-a.x<=1/\-1<=b.y-a.y/\b.y-a.y<=1/\¬(b.x=a.x/\b.y=a.y))
def iR:List Cx->Bool
 |a::b::r=>jL a b&&iR (b::r)
 |_=>true
theorem qF:∀l:List Cx,iR l=true↔∀i (h:i+1<ln l),jL l[i] l[i+1]=true
 |[]=>by simp[iR]
 |[a]=>by simp[iR]
 |a::b::r=>by
  rw[iR,bat,qF (b::r)];constructor
  ·rintro⟨h,d⟩ i c;cases i with
   |zero=>exact h
   |succ i=>exact d i (by simpa using c)
  ·intro h;exact⟨h 0 sm,λi c=>h (i+1) (by simpa using c)⟩
theorem wS (l:List Cx)(i:Nat)(h:i+1<ln l)(a:jL l[i] l[i+1]=false):iR l=false:=by
 rw[befq];intro b;have:=(qF l).1 b i h;rw[a]at this;cases this
theorem jP {α:Type}(p:α->Bool)(l:List α)(k:Nat)(h:k<ln l)(a:p l[k]=false):l.all p=false:=by
 rw[befq];intro ha;have:=lat.1 ha l[k] (lgm h);rw[a]at this;cases this
theorem nJ {α:Type}(p:α->Bool)(l:List α)(k:Nat)(h:k<ln l):(l.take (k+1)).all p=((l.take k).all p&&p l[k]):=by
 rw[tsa h,laa];simp only[List.all_cons,List.all_nil,Bool.and_true]
def CS (n:Nat):Bool:=decide (2<=n/\n<=40)
def lW (l:List Cx)(j:Nat):Cx:=l[j]?.getD ⟨0,0⟩
theorem jW (l:List Cx)(j:Nat)(h:j<ln l):lW l j=l[j]:=by simp[lW,h]
def yO (fl:List Fx)(l:List Cx):Bool:=zS fl (lW l 0).x (lW l 0).y&&zS fl (lW l (l.length-1)).x (lW l (l.length-1)).y
def j9 (fl:List Fx)(l:List Cx):Bool:=CS l.length&&(l.all gG&&(iR l&&yO fl l))
def pK (n:Nat):Bool:=decide (1<=n/\n<=3)
def GJ (n:Nat):Bool:=decide (1<=n/\n<=6)
def n6 (fl:List Fx)(l:List Yx):Bool:=pK l.length&&l.all λy=>j9 fl y.l
def zD (i:Int):Bool:=decide (1<=i/\i<=6)
def jD (l:List Int):Bool:=GJ l.length&&l.all zD
def oV (x:Wx):Bool:=decide (1<=x.q/\x.q<=x.s/\x.s<=50/\0<=x.f/\x.f<=x.b/\x.b<=10000)
def tR (i:Int):Bool:=decide (0<=i/\i<=300)
def eR (fl:List Fx)(x:Wx):Bool:=bU fl&&(cO x.n&&(oV x&&(tR x.l&&(n6 fl x.wl&&jD x.ll))))
def iN (x:Wx)(late:Int):Bool:=fQ x.q 1 50&&fQ x.s 1 50&&fQ x.f 0 10000&&fQ x.b 0 10000&&fQ late 0 300
def zB (k n lev:Int):Int:=min lev (min k (n-1-k))
def mL (x:Wx)(cs:List Cx)(lev late:Int)(k:Nat):Bx:=
 let here:=zB k cs.length lev
 let bef:=if k=0 then here else zB ((k:Int)-1) cs.length lev
 ⟨(lW cs k).x,(lW cs k).y,min bef here,max bef here,x.f+late+k*x.q,x.b+late+((k:Int)+1)*x.s-1⟩
def qM (x:Wx)(cs:List Cx)(lev late:Int):List Bx:=(List.range (min cs.length 40)).map (mL x cs lev late)
def D3 (l:List Yx)(j:Nat):Yx:=l[j]?.getD ⟨none,[],0⟩
theorem zU (l:List Yx)(j:Nat)(h:j<ln l):D3 l j=l[j]:=by simp[D3,h]
def OF (l:List Int)(j:Nat):Int:=l[j]?.getD 0
theorem RA (l:List Int)(j:Nat)(h:j<ln l):OF l j=l[j]:=by simp[OF,h]
def mU (n:Nat)(i:Int):Bool:=decide (0<=i/\i<n)
def bL (x:Wx)(way lev late:Int):List Bx:=
 if mU x.wl.length way&&(mU x.ll.length lev&&iN x late)then qM x (D3 x.wl way.toNat).l (OF x.ll lev.toNat) late else[]
theorem vW (f lb:List Bx)(z A:Oa)(C D:Nat)(w:Wd)(s:jG w z f)(t:jG w A lb)(hna:ln f<=1048576)(u:ln lb<=1048576):
 aW 154 #[.slice z (ln f) C,.slice A (ln lb) D] w λe w'=>e=rt (.bool (f.any λa=>lb.any (dY a)))/\aG w w':=by
 go_enter Tryz.func154,Tryz.ntmps154
 go_wp2
 go_loopw [9] (λi wr=>∃k:Nat,k<=ln f/\i=I k/\aG w wr/\Hid ((f.take k).any (λa=>lb.any (dY a))=false)) (λi _=>ln f-(intOf i).toNat)
 case atStart=>exact⟨0,nz _,rfl,br _ _,by simp[Hid]⟩
 case round=>
  obtain⟨k,hk,rfl,d,j⟩:=hrel
  by_cases g:k<ln f
  · rcases s with h|⟨bl,off,rfl,B⟩
    · subst h;simp at g
    · have n:=(B k g).zL d
      obtain⟨b,l⟩:=bQ (f[k]);rw[←l]at n;have o:=aI l;clear l B;obtain⟨c0,c1,c2,c3,c4,c5⟩:=n
      rcases bfo (aK b)with p|p
      · go_wp2_with (first
        |(go_at_call 194;refine(sX _ _).mono ?_;rintro e w1 ⟨rfl,c⟩;have d:aG w w1:=bI (by repeat (first|exact d|refine mG ?_ (nlq _) _)) (nlq _) c;obtain⟨q,r⟩:=rX c;have x:wr.heap.size<w1.heap.size:=(by have:=c.size;(try simp at this);omega))
        |(go_at_call 195;refine(LE _ _ _ _ _ p (t.zL d) u).mono ?_;rintro e w1 ⟨rfl,c⟩;have d:aG w w1:=bI d (nlq _) c;obtain⟨v,m⟩:∃v,v=lb.any (dY b):=⟨_,rfl⟩;rw[←m];have y:Hid (v=lb.any (dY b)):=m;clear m))
        · have m:v=true:=aq
          go_ret;exact⟨aF (gU _ f k g (by rw[←o.oQ,←y.oQ];exact m)).symm,d⟩
        · have m:v=false:=aq
          go_roundw
          case rel=>exact⟨k+1,om,gn,d,by rw[Hid,iH _ f k g,j.out,←o.oQ,←y.oQ,m];rfl⟩
          case measure=>simp[intOf];omega
      · go_wp2_with (first
        |(go_at_call 194;refine(sX _ _).mono ?_;rintro e w1 ⟨rfl,c⟩;have d:aG w w1:=bI (by repeat (first|exact d|refine mG ?_ (nlq _) _)) (nlq _) c;obtain⟨q,r⟩:=rX c;have x:wr.heap.size<w1.heap.size:=(by have:=c.size;(try simp at this);omega)))
        go_roundw
        case rel=>exact⟨k+1,om,gn,d,by rw[Hid,iH _ f k g,j.out,←o.oQ,zH _ p];rfl⟩
        case measure=>simp[intOf];omega
  · go_wp2
    go_ret;refine⟨aF ?_,d⟩;rw[ltl om]at j;exact j.out.symm
theorem IK (d lb:List Bx)(A B:Oa)(D F:Nat)(w:Wd)(v:jG w A d)(x:jG w B lb)(hna:ln d<=1048576)(hnb:ln lb<=1048576):
 aW 102 #[.slice A (ln d) D,.slice B (ln lb) F] w λe w'=>e=rt (.bool (d.any λa=>lb.any (dY a)))/\aG w w':=by
 go_enter Tryz.func102,Tryz.ntmps102
 go_wp2
 go_loopw [5,6] (λi _ wr=>∃k:Nat,k<=ln d/\i=I k/\aG w wr/\Hid ((d.take k).any (λa=>lb.any (dY a))=false)) (λi _ _=>ln d-(intOf i).toNat)
 case atStart=>exact⟨0,nz _,rfl,br _ _,by simp[Hid]⟩
 case round=>
  obtain⟨k,hk,rfl,c,q⟩:=hrel
  by_cases g:k<ln d
  ·rcases v with h|⟨bl,off,rfl,C⟩
   ·subst h;simp at g
   ·have n:=C k g
    obtain⟨a,l⟩:=bQ (d[k]);rw[←l]at n;have y:=aI l;clear l C;go_wp2
    go_loopw [6] (λi G=>∃j:Nat,j<=ln lb/\i=I j/\aG w G/\Hid ((lb.take j).any (dY a)=false)) (λi _=>ln lb-(intOf i).toNat)
    case atStart=>exact⟨0,nz _,rfl,c,by simp[Hid]⟩
    case round=>
     clear c;obtain⟨j,hj,rfl,c,p⟩:=hrel
     by_cases f:j<ln lb
     ·rcases x with h|⟨bl2,off2,rfl,s⟩
      ·subst h;simp at f
      ·have r:=(s j f).zL c
       have u:=n.zL c;obtain⟨b,m⟩:=bQ (lb[j]);rw[←m]at r;have z:=aI m;clear m s n;obtain⟨c0,c1,c2,c3,c4,c5⟩:=u;obtain⟨d0,d1,d2,d3,d4,d5⟩:=r;go_wp2_with fail
       go_region_with (go_at_call 136;refine(LC _ _ _).mono ?_;rintro e w1 ⟨rfl,t⟩;have c:aG w w1:=bI (by repeat (first|exact c|refine Below.drew ?_)) (nlq _) t)
       all_goals
        go_wp2
        ·have o:dY a b=true:=aq
         go_ret;exact⟨aF (gU _ d k g (by rw[←y.oQ];exact gU _ lb j f (by rw[←z.oQ];exact o))).symm,c⟩
        ·have o:dY a b=false:=aq
         go_roundw
         case rel=>exact⟨j+1,om,gn,c,by rw[Hid,iH _ lb j f,p.out,←z.oQ,o];rfl⟩
         case measure=>simp[intOf];omega
     ·rw[ltl om]at p
      go_wp2
      go_roundw
      case rel=>exact⟨k+1,om,gn,c,by rw[Hid,iH _ d k g,q.out,←y.oQ,p.out];rfl⟩
      case measure=>simp[intOf];omega
  ·go_wp2
   go_ret;refine⟨aF ?_,c⟩;rw[ltl om]at q;exact q.out.symm
variable {l:List Bx}{k:Nat}{a:List Fx}{w b:Bx}{c:Bool}
theorem rF (b:Bx)(v:Bool)(h:aK b=v)(w:Wd):aW 105 #[b.val] w λe w'=>e=rt (.bool v)/\aG w w':=by
 subst h;exact oA b w
theorem OM (a b:Bx)(v:Bool)(ha:aK a=true)(c:aK b=true)(h:dW a b=v)(w:Wd):aW 106 #[a.val,b.val] w λe w'=>e=rt (.bool v)/\aG w w':=by
 subst h;exact QJ a b w ha c
def pL (l:List Bx)(k:Nat):Prop:=(l.take k).all aK=true/\∀i (h:i+1<l.length),i+1<k->dW l[i] l[i+1]=true
theorem pL.step (h:pL l k)(c:k<ln l)(a:aK l[k]=true)(d:∀(h0:0<k),dW (l[k-1]'om) l[k]=true):pL l (k+1):=by
 refine⟨by rw[uW _ l k c,h.1,a];rfl,λi b hik=>?_⟩;by_cases e:i+1=k
 ·subst e;have:=d om;simpa using this
 ·exact h.2 i b om
theorem pL.prev (h:pL l k)(hk:k<ln l)(h0:0<k):aK (l[k-1]'om)=true:=by
 have a:l[k-1]'om∈l.take k:=by
  rw[List.mem_take_iff_getElem];exact⟨k-1,om,rfl⟩
 exact lat.1 h.1 _ a
theorem pL.done (h:pL l k)(b:ln l<=k):l.all aK=true/\fJ l=true:=by
 refine⟨by have:=h.1;rwa[ltl b]at this,(fO l).2 λi a=>h.2 i a om⟩
theorem yE (h:oO (ln l)=false):aQ a l=false:=by rw[aQ,h];rfl
theorem y6 (h:l.all aK=false):aQ a l=false:=by rw[aQ,h];simp
theorem wW (h:fJ l=false):aQ a l=false:=by rw[aQ,h];simp
theorem C8 (b:oO (ln l)=true)(c:l.all aK=true)(d:fJ l=true):aQ a l=lT a l:=by rw[aQ,b,c,d];rfl
theorem WF (hk:0<k){h1:k-1<ln l}{h2:k<ln l}(ha:w=l[k-1])(d:b=l[k])(h:dW w b=c){h3:k-1+1<ln l}:dW l[k-1] l[k-1+1]=c:=by
 have e:k-1+1=k:=om;have:l[k-1+1]=l[k]:=by simp[e]
 rw[this,←ha,←d];exact h
theorem E9 (a:List Fx)(l:List Bx)(h:ln l-1<ln l)(b:Bx)(c:b=l[ln l-1]):lT a l=(decide (b.lo=0)&&zS a b.x b.y):=by
 subst c;exact l9 a l h
theorem qJ (y:List Fx)(l:List Bx)(Q ao:Oa)(cf R:Nat)(w:Wd)(U:Xs 3 Fx.cells w Q y)(hl:jG w ao l)(Z:ln y<=1048576)(hn:ln l<=1048576):
 aW 65 #[.slice Q (ln y) cf,.slice ao (ln l) R] w λe w'=>e=rt (.bool (aQ y l))/\aG w w':=by
 obtain⟨V,S⟩:=bQ (aQ y l);rw[←S];have N:=aI S;clear S
 by_cases g:1<=ln l/\(ln l)<=40
 ·have W:fQ (ln l:Int) 1 40=true:=by simp only[fQ,dte];omega
  have O:=aI (det g);obtain⟨L,hl2⟩:=g
  go_enter Tryz.func65,Tryz.ntmps65
  go_wp2_with (go_at_call 57;refine(eM _ _ _ _).mono ?_;rintro e w ⟨rfl,rfl⟩)
  go_loopw [5] (λi wr=>∃k:Nat,k<=ln l/\i=I k/\aG w wr/\Hid (pL l k)) (λi _=>ln l-(intOf i).toNat)
  case atStart=>exact⟨0,nz _,rfl,br _ _,by simp[Hid,pL]⟩
  case round=>
   obtain⟨k,hk,rfl,d,u⟩:=hrel
   rcases hl with h|⟨bl,off,rfl,z⟩
   ·rw[h]at L;simp at L
   by_cases j:k<ln l
   ·have f:=(z k j).zL d
    have hne:Nonempty (cV wr):=⟨⟨wr,br _ _⟩⟩;obtain⟨b,c⟩:=bQ (l[k]);rw[←c]at f;have x:=aI c
    rcases bfo (aK b)with v|v
    ·by_cases K:k=0
     ·subst K
      clear c z;rw[Nat.zero_mul,naz]at f;obtain⟨m,n,o,p,q,r⟩:=f;have B:=cV.cell m;have C:=cV.cell n;have D:=cV.cell o;have F:=cV.cell p;have G:=cV.cell q;have H:=cV.cell r;clear m n o p q r;go_wp2_with fail
      refine aY kr kr ?_
      repeat (go_big_quiet_step ((go_at_call 105;exact cV.call _ (rF _ _ v _))))
      refine wpQuiet_nil ?_;rintro _ ⟨s,rfl⟩;have d:aG w s.w:=aE d s.h;clear B C D F G H;go_wp2
      go_roundw
      case rel=>exact⟨1,om,gn,d,u.out.step j (by rw[←x.oQ];exact v) (λh0=>absurd h0 om)⟩
      case measure=>simp[intOf];omega
     ·have X:0<k:=om
      have J:=(z (k-1) om).zL d;obtain⟨a,t⟩:=bQ (l[k-1]'om);rw[←t]at J;have HA:=aI t;have za:aK a=true:=by rw[t];exact u.out.prev j om
      obtain⟨nx,M⟩:=cI (dW a b);have P:=aI M;clear c t z M K;obtain⟨m,n,o,p,q,r⟩:=f;obtain⟨d0,d1,d2,d3,d4,d5⟩:=J;have B:=cV.cell m;have C:=cV.cell n;have D:=cV.cell o;have F:=cV.cell p;have G:=cV.cell q;have H:=cV.cell r;have g0:=cV.cell d0;have g1:=cV.cell d1;have g2:=cV.cell d2;have g3:=cV.cell d3;have g4:=cV.cell d4;have g5:=cV.cell d5;clear m n o p q r d0 d1 d2 d3 d4 d5;go_wp2_with fail
      refine aY kr kr ?_
      repeat (go_big_quiet_step (first|(go_at_call 105;exact cV.call _ (rF _ _ v _))|(go_at_call 106;exact cV.call _ (OM _ _ _ za v P.oQ _))))
      refine wpQuiet_nil ?_;rintro _ ⟨s,rfl⟩;have d:aG w s.w:=aE d s.h;clear B C D F G H g0 g1 g2 g3 g4 g5;go_wp2
      ·have A:nx=false:=nf aq
       subst A;go_ret;exact⟨aF (by rw[N.oQ];exact(wW (wU l (k-1) om (WF X HA.oQ x.oQ P.oQ))).symm),d⟩
      ·have A:nx=true:=nt aq
       subst A
       go_roundw
       case rel=>exact⟨k+1,om,gn,d,u.out.step j (by rw[←x.oQ];exact v) (λ_=>by rw[←HA.oQ,←x.oQ];exact P.oQ)⟩
       case measure=>simp[intOf];omega
    ·clear c z
     obtain⟨m,n,o,p,q,r⟩:=f;have B:=cV.cell m;have C:=cV.cell n;have D:=cV.cell o;have F:=cV.cell p;have G:=cV.cell q;have H:=cV.cell r;clear m n o p q r;go_wp2_with fail
     refine aY kr kr ?_
     repeat (go_big_quiet_step ((go_at_call 105;exact cV.call _ (rF _ _ v _))))
     refine wpQuiet_nil ?_;rintro _ ⟨s,rfl⟩;have d:aG w s.w:=aE d s.h;clear B C D F G H;go_wp2
     go_ret;exact⟨aF (by rw[N.oQ];exact(y6 (uP _ l k j (by rw[←x.oQ];exact v))).symm),d⟩
   ·have f:=(z (ln l-1) om).zL d
    obtain⟨b,c⟩:=bQ (l[ln l-1]'om);rw[←c]at f;have x:=aI c;clear c z;obtain⟨m,n,o,p,q,r⟩:=f
    go_wp2_with (go_at_call 107;refine(GZ y Q cf b _ (U.zL d) Z).mono ?_;rintro e w1 ⟨rfl,T⟩;have d:aG w w1:=bI d (nlq _) T)
    go_ret;obtain⟨ha,hp⟩:=u.out.done om;exact⟨aF (by rw[N.oQ,C8 O.oQ ha hp];exact(E9 y l om b x.oQ).symm),d⟩
 ·have W:fQ (ln l:Int) 1 40=false:=by simp only[fQ,dfi];omega
  have O:=aI (def0 g);clear g
  go_enter Tryz.func65,Tryz.ntmps65
  go_wp2_with (go_at_call 57;refine(eM _ _ _ _).mono ?_;rintro e w ⟨rfl,rfl⟩)
  go_ret;exact⟨aF (by rw[N.oQ];exact(yE O.oQ).symm),br _ _⟩
def dD (la lb:List Bx):Bool:=la.any λa=>lb.any (dY a)
def cJ (a b:Hx):Bool:=dD a.tl b.tl||(dD a.tl b.nl||(dD a.nl b.tl||dD a.nl b.nl))
theorem fT (a lb:List Bx)(v:Bool)(k:dD a lb=v)(b c:Oa)(i j:Nat)(w:Wd)(d:jG w b a)(f:jG w c lb)(g:ln a<=1048576)(h:ln lb<=1048576):
 aW 102 #[.slice b (ln a) i,.slice c (ln lb) j] w λe w'=>e=rt (.bool v)/\aG w w':=by
 subst k;exact IK a lb b c i j w d f g h
structure Hx.Fit (h:Hx):Prop where
 tn:h.tl.length<=1048576
 nn:h.nl.length<=1048576
 sn:h.n.size<=9223372036854775807
theorem VL (a b:Hx)(w:Wd)(ha:a.In w)(u:b.In w)(q:a.Fit)(r:b.Fit):
 aW 60 #[a.val,b.val] w λe w'=>e=rt (.bool (cJ a b))/\aG w w':=by
 obtain⟨V,A⟩:=bQ (cJ a b);rw[←A];have z:=aI A;clear A;have c:aG w ((w.alloc (ho a)).alloc (ho b)):=aC (aC (br _ _) _) _
 have C:∀w1,Below ((w.alloc (ho a)).alloc (ho b)).heap.size ((w.alloc (ho a)).alloc (ho b)) w1->
  w1.cell? (ya w 1)=some (ts a)/\w1.cell? (ya w 2)=some (ns a)/\w1.cell? (Y (w.heap.size+1) 1)=some (ts b)/\w1.cell? (Y (w.heap.size+1) 2)=some (ns b):=
  λw1 h=>⟨(h.cell so).trans sm,(h.cell so).trans sm,(h.cell sm).trans sm,(h.cell sm).trans sm⟩
 have F:=C;clear C;have k:=aI F;clear F;go_enter Tryz.func60,Tryz.ntmps60;go_wp2_with fail;rcases bfo (dD a.tl b.tl)with s|s
 ·refine(fT _ _ _ s _ _ _ _ _ (ha.1.zL c) (u.1.zL c) q.tn r.tn).mono ?_;rintro e w1 ⟨rfl,g⟩;go_wp2_with fail;go_ret;exact⟨aF (by rw[z.oQ,cJ,s];rfl),aE c g⟩
 refine(fT _ _ _ s _ _ _ _ _ (ha.1.zL c) (u.1.zL c) q.tn r.tn).mono ?_;rintro e w1 ⟨rfl,g⟩;have d:=aE c g;obtain⟨l,m,o,p⟩:=k.oQ w1 g;go_wp2_with fail;rcases bfo (dD a.tl b.nl)with v|v
 ·refine(fT _ _ _ v _ _ _ _ _ (ha.1.zL d) (u.2.zL d) q.tn r.nn).mono ?_;rintro e G ⟨rfl,i⟩;clear l m o p;go_wp2_with fail;go_ret;exact⟨aF (by rw[z.oQ,cJ,s,v];rfl),aE d i⟩
 refine(fT _ _ _ v _ _ _ _ _ (ha.1.zL d) (u.2.zL d) q.tn r.nn).mono ?_;rintro e G ⟨rfl,i⟩;have f:=aE d i;have y:=bI g (nlq _) i;clear l m o p;obtain⟨l,m,o,p⟩:=k.oQ G y;go_wp2_with fail;rcases bfo (dD a.nl b.tl)with x|x
 ·refine(fT _ _ _ x _ _ _ _ _ (ha.2.zL f) (u.1.zL f) q.nn r.tn).mono ?_;rintro e H ⟨rfl,j⟩;clear l m o p;go_wp2_with fail;go_ret;exact⟨aF (by rw[z.oQ,cJ,s,v,x];rfl),aE f j⟩
 refine(fT _ _ _ x _ _ _ _ _ (ha.2.zL f) (u.1.zL f) q.nn r.tn).mono ?_;rintro e H ⟨rfl,j⟩;have t:=aE f j;have D:=bI y (nlq _) j;clear l m o p;obtain⟨l,m,o,p⟩:=k.oQ H D;go_wp2_with fail;refine(fT _ _ _ rfl _ _ _ _ _ (ha.2.zL t) (u.2.zL t) q.nn r.nn).mono ?_;rintro e w4 ⟨rfl,B⟩;clear l m o p;go_wp2_with fail;go_ret;exact⟨aF (by rw[z.oQ,cJ,s,v,x];rfl),aE t B⟩
structure Hx.Like (a b:Hx):Prop where
 n:a.n=b.n
 t:a.tl=b.tl
 x:a.nl=b.nl
structure aT (l m:List Hx):Prop where
 len:m.length=l.length
 like:∀k (h:k<l.length),l[k].Like (m[k]'(by omega))
def oZ (fl:List Fx)(now:Int)(h:Hx):Bool:=cO h.n&&(aQ fl h.tl&&(fY now h.tl&&(h.nl.isEmpty||(aQ fl h.nl&&fY now h.nl))))
theorem nC (b:List Fx)(l:List Bx)(v:Bool)(k:aQ b l=v)(c d:Oa)(h a:Nat)(w:Wd)(f:Xs 3 Fx.cells w c b)(i:jG w d l)(g:ln b<=1048576)(j:ln l<=1048576):
 aW 65 #[.slice c (ln b) h,.slice d (ln l) a] w λe w'=>e=rt (.bool v)/\aG w w':=by
 subst k;exact qJ b l c d h a w f i g j
theorem uK (l:List Bx)(a:Int)(v:Bool)(g:fY a l=v)(c:Oa)(b:Nat)(w:Wd)(d:jG w c l)(f:ln l<=1048576):
 aW 66 #[.slice c (ln l) b,I a] w λe w'=>e=rt (.bool v)/\w'=w:=by
 subst g;exact CE l c b a w d f
theorem N7 (b:Bk)(h:Hx)(w:Wd)(F:Xs 3 Fx.cells w b.fa b.fl)(r:ln b.fl<=1048576)(g:h.In w)(o:h.Fit):
 aW 59 #[b.val,h.val] w λe w'=>e=rt (.bool (oZ b.fl b.now h))/\aG w w':=by
 obtain⟨V,D⟩:=bQ (oZ b.fl b.now h);rw[←D];have l:=aI D;clear D;obtain⟨W0,f⟩:=bQ (((w.alloc (bo b)).alloc (ho h)));have d:aG w W0:=by rw[f];exact aC (aC (br _ _) _) _
 have A:Hid (∀w1,aG W0 w1->w1.cell? (ya w 0)=some (I b.now)/\w1.cell? (ya w 1)=some (fs b)/\
  w1.cell? (Y (w.heap.size+1) 0)=some (.string h.n)/\w1.cell? (Y (w.heap.size+1) 1)=some (ts h)/\w1.cell? (Y (w.heap.size+1) 2)=some (ns h)):=by
  subst f;exact λw1 h=>⟨(h.cell so).trans sm,(h.cell so).trans sm,(h.cell sm).trans sm,(h.cell sm).trans sm,(h.cell sm).trans sm⟩
 have B:=aI f;clear f;go_enter Tryz.func59,Tryz.ntmps59;go_wp2_with fail;rw[←B.oQ];obtain⟨J,i⟩:∃v,cO h.n=v:=⟨_,rfl⟩;refine(fE _ _ i _ o.sn).mono ?_;rintro e W0 ⟨rfl,rfl⟩;obtain⟨t,u,x,y,z⟩:=A.oQ _ (br _ _);cases J with
 |false=>
  go_wp2_with fail;go_ret;exact⟨aF (by rw[l.oQ,oZ,i];rfl),d⟩
 |true=>
 go_wp2_with fail;obtain⟨K,m⟩:∃v,aQ b.fl h.tl=v:=⟨_,rfl⟩;refine(nC _ _ _ m _ _ _ _ _ (F.zL d) (g.1.zL d) r o.tn).mono ?_;rintro e w1 ⟨rfl,k⟩;have a:=aE d k;clear t u x y z;obtain⟨t,u,x,y,z⟩:=A.oQ w1 k;cases K with
 |false=>
  go_wp2_with fail;go_ret;exact⟨aF (by rw[l.oQ,oZ,i,m];rfl),a⟩
 |true=>
 go_wp2_with fail;obtain⟨L,p⟩:∃v,fY b.now h.tl=v:=⟨_,rfl⟩;refine(uK _ _ _ p _ _ _ (g.1.zL a) o.tn).mono ?_;rintro e w1 ⟨rfl,rfl⟩;cases L with
 |false=>
  go_wp2_with fail;go_ret;exact⟨aF (by rw[l.oQ,oZ,i,m,p];rfl),a⟩
 |true=>
 by_cases c:ln h.nl=0
 ·have H:((ln h.nl:Int)==0)=true:=by simp[c]
  have s:Hid (h.nl.isEmpty=true):=by rw[Hid,List.isEmpty_iff];exact enl c
  clear c;go_wp2_with fail;go_ret;exact⟨aF (by rw[l.oQ,oZ,i,m,p,s.oQ];rfl),a⟩
 have H:((ln h.nl:Int)==0)=false:=by simp;intro g;exact c (by rw[g];rfl)
 have s:Hid (h.nl.isEmpty=false):=by rw[Hid,befq];intro g;rw[List.isEmpty_iff]at g;exact c (by rw[g];rfl)
 clear c;go_wp2_with fail;obtain⟨M,C⟩:∃v,aQ b.fl h.nl=v:=⟨_,rfl⟩;refine(nC _ _ _ C _ _ _ _ _ (F.zL a) (g.2.zL a) r o.nn).mono ?_;rintro e G ⟨rfl,q⟩;have j:=aE a q;clear t u x y z;obtain⟨t,u,x,y,z⟩:=A.oQ G (bI k (nlq _) q);cases M with
 |false=>
  go_wp2_with fail;go_ret;exact⟨aF (by rw[l.oQ,oZ,i,m,p,s.oQ,C];rfl),j⟩
 |true=>
 go_wp2_with fail;refine(uK _ _ _ rfl _ _ _ (g.2.zL j) o.nn).mono ?_;rintro e G ⟨rfl,rfl⟩;go_wp2_with fail;go_ret;exact⟨aF (by rw[l.oQ,oZ,i,m,p,s.oQ,C];rfl),j⟩
variable {l:List Hx}{h:Hx}{b:List Fx}{a:Int}{w:Bk}
def cK (fl:List Fx)(now:Int)(h:Hx):Bool:=aQ fl h.tl&&(fY now h.tl&&(h.nl.isEmpty||(aQ fl h.nl&&fY now h.nl)))
theorem MJ (b:List Fx)(a:Int)(h:Hx):oZ b a h=(cO h.n&&cK b a h):=rfl
def lC (l:List Hx)(k:Nat)(h:Hx):Bool:=!(l.take k).any (λg=>cJ g h)
def gO (l:List Hx):Nat->Bool
 |0=>true
 |k+1=>gO l k&&lC l k (gB l k)
def dU (fl:List Fx)(now:Int)(l:List Hx):Bool:=bX Hx.n l&&((l.all (cK fl now))&&gO l l.length)
def aO (b:Bk):Bool:=oL b.now&&(bU b.fl&&(iD b.hl.length&&dU b.fl b.now b.hl))
theorem DC (h:lC l k (gB l k)=false):∀m,k<m->gO l m=false
 |0,hm=>absurd hm om
 |m+1,hm=>by
  rw[gO];by_cases e:k=m;·subst e;rw[h,Bool.and_false]
  ·rw[DC h m om];rfl
theorem L4 (a:(l.take k).any (λg=>cJ g h)=true):lC l k h=false:=by rw[lC,a];rfl
structure HTo (fl:List Fx)(now:Int)(l:List Hx)(k:Nat):Prop where
 nm:(l.take k).all (λx=>cO x.n)=true
 lt:∀i,i+1<k->gE (gB l i).n (gB l (i+1)).n=true
 tb:(l.take k).all (cK fl now)=true
 ap:gO l k=true
theorem HTo.step (h:HTo b a l k)(c:k<ln l)(d:oZ b a (gB l k)=true)(g:0<k->gE (gB l (k-1)).n (gB l k).n=true)(f:lC l k (gB l k)=true):HTo b a l (k+1):=by
 rw[MJ,bat,dB l k c]at d;refine⟨by rw[tsa c,laa,h.nm];simp[d.1],λi hi=>?_,by rw[tsa c,laa,h.tb];simp[d.2],by rw[gO,h.ap,f];rfl⟩;by_cases e:i+1=k;·subst e;simpa using g om
 ·exact h.lt i om
theorem IB (c:k<ln l)(h:oZ b a (gB l k)=false):dU b a l=false:=by
 rw[dB l k c,MJ]at h;rw[dU];cases hn:cO l[k].n with
 |false=>rw[sG c hn];rfl
 |true=>
  rw[hn,Bool.true_and]at h
  have:l.all (cK b a)=false:=by
   rw[befq];intro ha;have:=lat.1 ha l[k] (lgm c);rw[h]at this;cases this
  rw[this];simp
theorem OC (hk:k<ln l)(h0:0<k)(h:gE (gB l (k-1)).n (gB l k).n=false):dU b a l=false:=by
 have:kR Hx.n l=false:=by
  rw[befq];intro ha;have:=(iU Hx.n l).1 ha (k-1) om;rw[←dB l (k-1) om,←dB l (k-1+1) om,show k-1+1=k by omega,h]at this;cases this
 rw[dU,bX,this];simp
theorem UF (h:HTo b a l k)(f:k=ln l):dU b a l=true:=by
 subst f;have d:=h.nm;have e:=h.tb;rw[ltl (nlq _)]at d e
 have ha:kR Hx.n l=true:=(iU Hx.n l).2 λi c=>by
  have:=h.lt i c;rwa[dB l i om,dB l (i+1) c]at this
 rw[dU,bX,d,ha,e,h.ap];rfl
theorem tT (h:dU w.fl w.now w.hl=false):aO w=false:=by rw[aO,h];simp
theorem MN (a:k<ln w.hl)(h:lC w.hl k (gB w.hl k)=false):aO w=false:=by
 refine tT ?_;rw[dU,DC h _ a];simp
theorem rV (l:List Fx)(v:Bool)(h:bU l=v)(b:Oa)(a:Nat)(w:Wd)(c:Xs 3 Fx.cells w b l)(d:ln l<=1048576)(g:∀f∈l,f.n.size<=9223372036854775807):
 aW 58 #[.slice b (ln l) a] w λe w'=>e=rt (.bool v)/\aG w w':=by
 subst h;exact rN l b a w c d g
theorem pU (b:Bk)(h:Hx)(v:Bool)(g:oZ b.fl b.now h=v)(w:Wd)(d:Xs 3 Fx.cells w b.fa b.fl)(a:ln b.fl<=1048576)(f:h.In w)(c:h.Fit):
 aW 59 #[b.val,h.val] w λe w'=>e=rt (.bool v)/\aG w w':=by
 subst g;exact N7 b h w d a f c
theorem VC (a b:Hx)(v:Bool)(g:cJ a b=v)(w:Wd)(ha:a.In w)(f:b.In w)(c:a.Fit)(d:b.Fit):
 aW 60 #[a.val,b.val] w λe w'=>e=rt (.bool v)/\aG w w':=by
 subst g;exact VL a b w ha f c d
theorem DR (b:Bk)(r d:Nat)(zn:b.ha=some (Y r d))(w:Wd)(hf:Xs 3 Fx.cells w b.fa b.fl)(A:ln b.fl<=1048576)(hc:∀k (h:k<ln b.hl),bC w r (d+k*3) b.hl[k].cells)(hnh:ln b.hl<=1048576)
 (O:∀h∈b.hl,h.In w)(N:∀h∈b.hl,h.Fit)(zy:∀f∈b.fl,f.n.size<=9223372036854775807):
 aW 26 #[b.val] w λe w'=>e=rt (.bool (aO b))/\aG w w':=by
 obtain⟨V,hV⟩:=bQ (aO b);rw[←hV];have S:=aI hV;clear hV;have q:aG w (w.alloc (.cells #[I b.now,fs b,sl r d (ln b.hl) b.hc] 32)):=aC (br _ _) _
 have HC:Hid (∀w1,Below (w.alloc (.cells #[I b.now,fs b,sl r d (ln b.hl) b.hc] 32)).heap.size (w.alloc (.cells #[I b.now,fs b,sl r d (ln b.hl) b.hc] 32)) w1->w1.cell? (ya w 0)=some (I b.now)/\w1.cell? (ya w 1)=some (fs b)/\w1.cell? (ya w 2)=some (sl r d (ln b.hl) b.hc)):=
  λw1 h=>⟨(h.cell sm).trans sm,(h.cell sm).trans sm,(h.cell sm).trans sm⟩
 obtain⟨nv,zk⟩:∃v,fQ b.now 0 10000=v:=⟨_,rfl⟩;have C:Hid (oL b.now=nv):=zk;unfold Bk.val;rw[zn]
 go_enter Tryz.func26,Tryz.ntmps26
 go_wp2_with fail
 refine(bO _ _ _ _ zk _).mono ?_;rintro e w0 ⟨rfl,zx⟩;subst zx
 cases nv with
 |false=>
  go_wp2_with fail
  go_ret;exact⟨aF (by rw[S.oQ,aO,C.oQ];rfl),q⟩
 |true=>
 go_wp2_with fail
 obtain⟨fv,F⟩:∃v,bU b.fl=v:=⟨_,rfl⟩;refine(rV b.fl _ F _ _ _ (hf.zL q) A zy).mono ?_;rintro e w1 ⟨rfl,D⟩;have c:=aE q D;obtain⟨Q,R,i2⟩:=HC.oQ w1 D
 cases fv with
 |false=>
  go_wp2_with fail
  go_ret;exact⟨aF (by rw[S.oQ,aO,C.oQ,F];rfl),c⟩
 |true=>
 by_cases ze:ln b.hl<=16
 ·have zm:decide ((16:Int)<(ln b.hl:Int))=false:=by simp;omega
  go_wp2
  clear Q R i2 c
  go_loopw [3] (λi wr=>∃k:Nat,k<=ln b.hl/\i=I k/\Below (w.alloc (.cells #[I b.now,fs b,sl r d (ln b.hl) b.hc] 32)).heap.size (w.alloc (.cells #[I b.now,fs b,sl r d (ln b.hl) b.hc] 32)) wr/\Hid (HTo b.fl b.now b.hl k)) (λi _=>ln b.hl-(intOf i).toNat)
  case atStart=>exact⟨0,nz _,rfl,D,⟨sm,λi hi=>absurd hi om,sm,rfl⟩⟩
  case round=>
   clear D;obtain⟨k,hk,rfl,t,zd⟩:=hrel;have m:aG w wr:=q.trans (t.mono q.size);obtain⟨Q,R,i2⟩:=HC.oQ _ t
   by_cases p:k<ln b.hl
   ·have u:=(hc k p).zL m
    have z:b.hl[k]∈b.hl:=lgm p;have y:=O _ z;have x:=N _ z;obtain⟨h,Z⟩:=bQ (gB b.hl k);rw[←dB b.hl k p,←Z]at u y x;have B:=aI Z;clear Z z;obtain⟨T,U,W⟩:=gN u;clear u;have H:Nonempty (cV wr):=⟨⟨_,br _ _⟩⟩;have p0:=cV.cell Q;have p1:=cV.cell R;have p2:=cV.cell i2;obtain⟨zw,P⟩:∃v,oZ b.fl b.now h=v:=⟨_,rfl⟩
    cases zw with
    |false=>
     have K:=cV.cell T;have L:=cV.cell U;have M:=cV.cell W;clear T U W Q R;go_wp2_with fail
     refine aY kr kr ?_
     repeat (go_big_quiet_step ((go_at_call 59;exact cV.call _ (pU ⟨b.now,b.fa,b.fl,b.fc,some (Y r d),b.hl,b.hc⟩ h _ P _ (hf.zL (aE m (cV.h _))) A (y.zL (aE m (cV.h _))) x))))
     refine wpQuiet_nil ?_;rintro _ ⟨s,rfl⟩;have l:=bI t (nlq _) s.h;have c:=bI m (nlq _) s.h;generalize s.w=w1 at l c;clear s p0 p1 p2 K L M H;go_wp2
     go_ret;exact⟨aF (by rw[S.oQ,tT (IB p (by rw[←B.oQ];exact P))]),c⟩
    |true=>
    have HH:=aI P
    by_cases zi:k=0
    ·subst zi
     rw[Nat.zero_mul,naz]at T U W;have K:=cV.cell T;have L:=cV.cell U;have M:=cV.cell W;clear T U W Q R;go_wp2_with fail
     refine aY kr kr ?_
     repeat (go_big_quiet_step ((go_at_call 59;exact cV.call _ (pU ⟨b.now,b.fa,b.fl,b.fc,some (Y r d),b.hl,b.hc⟩ h _ P _ (hf.zL (aE m (cV.h _))) A (y.zL (aE m (cV.h _))) x))))
     refine wpQuiet_nil ?_;rintro _ ⟨s,rfl⟩;have l:=bI t (nlq _) s.h;have c:=bI m (nlq _) s.h;generalize s.w=w1 at l c;clear s p0 p1 p2 K L M H;go_wp2
     clear t m P
     go_loopw [4] (λi ws=>∃j:Nat,j<=0/\i=I j/\Below (w.alloc (.cells #[I b.now,fs b,sl r d (ln b.hl) b.hc] 32)).heap.size (w.alloc (.cells #[I b.now,fs b,sl r d (ln b.hl) b.hc] 32)) ws/\Hid ((b.hl.take j).any (λg=>cJ g h)=false)) (λi _=>0-(intOf i).toNat)
     case atStart=>exact⟨0,nz _,rfl,l,by simp[Hid]⟩
     case round=>
      clear l c;obtain⟨j,hj,rfl,t,J⟩:=hrel;have m:aG w wr:=q.trans (t.mono q.size)
      by_cases zh:j<0
      ·omega
      ·have zc:j=0:=om
       go_wp2
       go_roundw
       case rel=>exact⟨0+1,om,gn,t,zd.out.step p (by rw[←B.oQ];exact HH.oQ) (λh0=>absurd h0 om) (by rw[←B.oQ,lC,←zc,J.out];rfl)⟩
       case measure=>simp[intOf];omega
    ·have zt:0<k:=om
     have za:=(hc (k-1) om).zL m;obtain⟨a,X⟩:=bQ (gB b.hl (k-1));rw[←dB b.hl (k-1) om,←X]at za;have HA:=aI X;clear X zi;have g0:=cV.cell (gN za).1;clear za;have K:=cV.cell T;have L:=cV.cell U;have M:=cV.cell W;clear T U W Q R
     rcases bfo (gE a.n h.n)with o|o
     ·have HL:=aI o
      have zf:Op.bytesLess a.n.toList h.n.toList=true:=o;clear o;go_wp2_with fail
      refine aY kr kr ?_
      repeat (go_big_quiet_step ((go_at_call 59;exact cV.call _ (pU ⟨b.now,b.fa,b.fl,b.fc,some (Y r d),b.hl,b.hc⟩ h _ P _ (hf.zL (aE m (cV.h _))) A (y.zL (aE m (cV.h _))) x))))
      refine wpQuiet_nil ?_;rintro _ ⟨s,rfl⟩;have l:=bI t (nlq _) s.h;have c:=bI m (nlq _) s.h;generalize s.w=w1 at l c;clear s p0 p1 p2 K L M H g0;clear zf;go_wp2
      clear t m P
      go_loopw [4] (λi ws=>∃j:Nat,j<=k/\i=I j/\Below (w.alloc (.cells #[I b.now,fs b,sl r d (ln b.hl) b.hc] 32)).heap.size (w.alloc (.cells #[I b.now,fs b,sl r d (ln b.hl) b.hc] 32)) ws/\Hid ((b.hl.take j).any (λg=>cJ g h)=false)) (λi _=>k-(intOf i).toNat)
      case atStart=>exact⟨0,nz _,rfl,l,by simp[Hid]⟩
      case round=>
       clear l c;obtain⟨j,hj,rfl,t,J⟩:=hrel;have m:aG w wr:=q.trans (t.mono q.size)
       by_cases zh:j<k
       ·obtain⟨g,G⟩:=bQ (b.hl[j]'om)
        have zg:g∈b.hl:=by rw[G];exact lgm _
        have zb:=(hc j om).zL m;have u:=(hc k p).zL m;rw[←G]at zb;rw[←dB b.hl k p,←B.oQ]at u;have HG:=aI G;clear G;obtain⟨e0,e1,e2⟩:=gN zb;obtain⟨d0,d1,d2⟩:=gN u;obtain⟨Q,R,i2⟩:=HC.oQ _ t;have zj:Nonempty (cV wr):=⟨⟨_,br _ _⟩⟩;have p2:=cV.cell i2;have q0:=cV.cell e0;have q1:=cV.cell e1;have q2:=cV.cell e2;have K:=cV.cell d0;have L:=cV.cell d1;have M:=cV.cell d2;clear zb u e0 e1 e2 d0 d1 d2 Q R i2;have zq:=(O g zg).zL m;have zr:=y.zL m;have zp:=N g zg;obtain⟨v,zl⟩:=cI (cJ g h);have HM:=aI zl;clear zl;go_wp2_with fail
        refine aY kr kr ?_
        repeat (go_big_quiet_step ((go_at_call 60;exact cV.call _ (VC g h _ HM.oQ _ (zq.zL (cV.h _)) (zr.zL (cV.h _)) zp x))))
        refine wpQuiet_nil ?_;rintro _ ⟨s,rfl⟩;have l:=bI t (nlq _) s.h;have c:=bI m (nlq _) s.h;generalize s.w=w1 at l c;clear s p2 q0 q1 q2 K L M zj;go_wp2
        ·have zv:v=true:=aq
         subst zv;go_ret;exact⟨aF (by rw[S.oQ,MN p (by rw[←B.oQ];exact L4 (gU _ (b.hl.take k) j so (by simp only[List.getElem_take];rw[←HG.oQ];exact HM.oQ)))]),c⟩
        ·have zu:v=false:=aq
         subst zu
         go_roundw
         case rel=>exact⟨j+1,om,gn,l,by rw[Hid,iH _ b.hl j om,J.out,←HG.oQ,HM.oQ];rfl⟩
         case measure=>simp[intOf];omega
       ·have zc:j=k:=om
        go_wp2
        go_roundw
        case rel=>exact⟨k+1,om,gn,t,zd.out.step p (by rw[←B.oQ];exact HH.oQ) (λ_=>by rw[←HA.oQ,←B.oQ];exact HL.oQ) (by rw[←B.oQ,lC,←zc,J.out];rfl)⟩
        case measure=>simp[intOf];omega
     ·have HL:=aI o
      have zf:Op.bytesLess a.n.toList h.n.toList=false:=o;clear o;go_wp2_with fail
      refine aY kr kr ?_
      repeat (go_big_quiet_step ((go_at_call 59;exact cV.call _ (pU ⟨b.now,b.fa,b.fl,b.fc,some (Y r d),b.hl,b.hc⟩ h _ P _ (hf.zL (aE m (cV.h _))) A (y.zL (aE m (cV.h _))) x))))
      refine wpQuiet_nil ?_;rintro _ ⟨s,rfl⟩;have l:=bI t (nlq _) s.h;have c:=bI m (nlq _) s.h;generalize s.w=w1 at l c;clear s p0 p1 p2 K L M H g0;go_wp2
      go_ret;exact⟨aF (by rw[S.oQ,tT (OC p zt (by rw[←HA.oQ,←B.oQ];exact HL.oQ))]),c⟩
   ·have zs:k=ln b.hl:=om
    go_wp2
    go_ret;exact⟨aF (by rw[S.oQ,aO,C.oQ,F,iD,det ze,UF zd.out zs];rfl),m⟩
 ·have zm:decide ((16:Int)<(ln b.hl:Int))=true:=by simp;omega
  go_wp2
  go_ret;exact⟨aF (by rw[S.oQ,aO,C.oQ,F,iD,def0 ze];rfl),c⟩
