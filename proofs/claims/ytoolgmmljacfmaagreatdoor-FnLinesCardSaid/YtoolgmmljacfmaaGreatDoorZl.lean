import Derived.Test.YtoolgmmljacfmaaGreatDoorZa
import Derived.Test.YtoolgmmljacfmaaGreatDoorZl1
import Derived.Lib.Builder
import Derived.Lib.AppendStr
import Derived.Laws.Externs
import Derived.Lib.Join
import Derived.Maps.OwnIn
import Derived.Test.YtoolgmmljacfmaaGreatDoorUe0
set_option maxRecDepth 100000
set_option maxHeartbeats 16000000
open List renaming length → ln
open Go.Proofs.Tryz Go.RowKit
namespace Go.Proofs.YtoolgmmljacfmaaGreatDoor
open Go.BigFrame
variable {t sz z n a Z:Nat}{w:Wd}{b k:Oa}{v m r:Va}{l:List Fx}{F:Nat → Prop}{s:St}{W:Bk}{d:List Ba}{nm:Ba}{i:List Int}{y:Fx}
theorem aAG (l:List Fx)(nm:Ba):qC l nm<=ln l:=(List.takeWhile_sublist _).length_le
theorem ZN {α:Type}{c:α->List Va}{l:List α}(h:bW t sz c w z (.slice b n a) l):∀q,b.map Addr.block=some q->z<=q:=λq d=>by
 rcases h with⟨e,_⟩|⟨g,_,e,f,_⟩;·cases e;cases d
 ·cases e;cases d;exact f
theorem LD (h:bW 34 3 Fx.cells w z v l):∃a c,v=.slice a (ln l) c/\Xs 3 Fx.cells w a l:=by
 obtain⟨a,c,e⟩:=h.slice;subst e;exact⟨a,c,rfl,h.xs Fx.cells_length⟩
theorem FY (h:bW 34 3 Fx.cells w z (.slice k n t) l):ln l<=t:=by
 rcases h with⟨e,rfl⟩|⟨g,_,e,_,b,_⟩;·exact nz _
 ·cases e;exact b
theorem lH.putF (h:lH F sz w s W v) (y:Fx) {z a c:_} (x:∀q,F q->q<z) (u:bW 34 3 Fx.cells w z (.slice a (ln (gY W.fl y)) c) (gY W.fl y)) (m:c<=9223372036854775807):
 lH (λq=>F q∨(z<=q/\q<w.heap.size)) sz (gI w sz ⟨W.now,a,gY W.fl y,c,W.ha,W.hl,W.hc⟩) ⟨gR s.b y,s.t⟩ ⟨W.now,a,gY W.fl y,c,W.ha,W.hl,W.hc⟩ v:=by
 have f:=dJ w sz ⟨W.now,a,gY W.fl y,c,W.ha,W.hl,W.hc⟩;have n:(gI w sz ⟨W.now,a,gY W.fl y,c,W.ha,W.hl,W.hc⟩).heap.size=w.heap.size:=by simp[gI,World.setCell]
 have l:=x sz h.fS;refine⟨aP (aP (aP h.o 0 _) 1 _) 2 _,jI h.h (λk cs _ m=>f.block k (iB m) (λe=>?_)),⟨⟨h.b.c.now,by show gY W.fl y=gY s.b.fl y;rw[h.b.c.fl],h.b.c.lk⟩,λp j=>?_,FY u,m⟩,.inl h.fS,λk d=>.inl (h.fh k d),λk d=>?_,h.e.but f (λk e=>by rw[e];exact(h.fl sz h.fS).1)⟩
 ·have A:k=sz:=e;subst A;rw[h.o]at m;simp at m
 ·have B:aU (λk=>k<z) w (gI w sz ⟨W.now,a,gY W.fl y,c,W.ha,W.hl,W.hc⟩):=f.wide (λk e=>by rw[e];exact l)
  have C:aU (λk=>k<z) w p:=B.trans ⟨j.os,j.tape,j.output,j.size,λk d D=>j.block k d (λe=>D (by
   rcases e with rfl|e|e;·exact l
   ·exact x k (h.fh k e)
   ·rcases Nat.lt_or_ge k z with g|g;·exact g
    ·exact absurd (.inr ⟨g,by rw[←n];exact d⟩) e))⟩
  have r:aU (λk=>k=sz∨v.ownBlock=some k∨¬F k) w p:=(f.wide (λk e=>.inl e)).trans (j.wide (λk e=>e.elim .inl (λe=>.inr (e.elim .inl (λe=>.inr (λg=>e (.inl g)))))));obtain⟨ao',c',e,hx⟩:=LD (u.but C (λk e=>e));cases e;exact⟨hx,(h.b.i p r).h,(h.b.i p r).i⟩
 ·rw[n];rcases d with d|d;·exact h.fl k d
  ·exact⟨by have:=(h.fl sz h.fS).1;omega,d.2⟩
theorem ws3 (h:ln d=3):∃a b c,d=[a,b,c]:=by
 match d,h with
 |[a,b,c],_=>exact⟨a,b,c,rfl⟩
theorem uR {s:St}(h:¬(ln d)=3):gH s d=(s,dR):=by
 unfold gH;split;·simp at h
 ·rfl
def IF2 (vw:Value)(bl off:Nat)(nm:ByteArray)(vx:Value)(NL:List Int)(GD:Prop)(Z:Nat)(j:Nat)(v:Value)(w:World):Prop:=
 match j with
 |0|3=>v=vw
 |1=>v=(E bl off)
 |2=>v=.string nm
 |4=>v=vx
 |5=>(∃a c,v=.slice a 2 c/\∀w',KpW w w'->Xs 1 dV w' a NL)/\GD
 |6=>∃p,v=(E p 0)/\Z<=p/\w.heap[p]?=some (.cells #[.string ⟨#[]⟩] 9)
 |_=>True
theorem IF2.zL {h:Prop}(j:Nat)(v:Va)(w w':Wd)(d:IF2 m t sz nm r i h z j v w)(l:aG w w'):IF2 m t sz nm r i h z j v w':=by
 unfold IF2 at*;split at d
 all_goals first
  |exact d
  |(obtain⟨⟨a,c,e,f⟩,g⟩:=d;exact⟨⟨a,c,e,λq o=>f q (o.from l)⟩,g⟩)
  |(obtain⟨p,e,f,g⟩:=d;exact⟨p,e,f,bJ g l⟩)
def ZW (S:Nat)(b:Bk)(k:Nat)(y:Fx)(vn:Value)(g oo:Nat)(Z:Nat)(j:Nat)(v:Value)(w:World):Prop:=
 match j with
 |0|1|2=>v=(E S 0)
 |3=>v=(E S 1)
 |4=>v=.slice b.fa b.fl.length b.fc
 |5=>bW 34 3 Fx.cells w Z v b.fl/\nQ v
 |6=>v=I k
 |7=>v=.string y.n
 |8|11=>v=vn
 |9=>v=(E g oo)
 |10=>v=I y.x
 |12=>v=(E g (oo+1))
 |13=>v=I y.y
 |14=>v=y.val
 |15=>∃p,v=.slice (some (Y p 0)) 1 1/\w.heap[p]?=some (.cells #[.string y.n,I y.x,I y.y] 34)
 |_=>True
theorem ZW.zL (j:Nat)(v:Va)(w w':Wd)(a:ZW t W sz y m z n Z j v w)(c:aG w w'):ZW t W sz y m z n Z j v w':=by
 unfold ZW at*;split at a
 all_goals first
  |exact a
  |(exact⟨a.1.zL c,a.2⟩)
  |(obtain⟨p,f,h⟩:=a;exact⟨p,f,bJ h c⟩)
theorem PU (F:Nat->Prop)(S:Nat)(w:Wd)(s:St)(b:Bk)(v:Va)(hS:lH F S w s b v)(kk:Nat)(xs:jF kk s)(a:List Ba)(ao:Oa)(X:Nat)(hX:Xs 1 eE w ao a)(xn:ln a<=X)(xt:∀x∈a,x.size<=1048575):
 aW 34 #[E S 0,.slice ao (ln a) X] w λe w'=>XT F S w s (gH s a) e w':=by
 by_cases hl:ln a=3
 ·obtain⟨nm,xw,yw,J⟩:=ws3 hl
  obtain⟨bl,l,rfl⟩:∃bl l,ao=some (Y bl l):=by
   rcases hX with h|⟨bl,l,e,_⟩
   ·rw[h]at hl;simp at hl
   ·exact⟨bl,l,e⟩
  have xi:Xs 1 eE w (some (Y bl (l+1))) [xw,yw]:=jN hX 1 [nm] _ [] (by rw[J];rfl) rfl;have c0:=iC hX 0 nm (by rw[J];rfl);rw[naz]at c0;have xq:nm.size<=1048575:=xt nm (by rw[J];simp);obtain⟨i1,yc⟩:∃i,i=aV xw:=⟨_,rfl⟩;obtain⟨i2,yd⟩:∃i,i=aV yw:=⟨_,rfl⟩;obtain⟨y,hy⟩:=bQ (⟨nm,i1,i2⟩:Fx);have xb:Hid (y.n=nm):=by rw[Hid,hy]
  have qh:Hid (y.x=i1):=by rw[Hid,hy]
  have qi:Hid (y.y=i2):=by rw[Hid,hy]
  have qj:Hid (y.n.size<=1048575):=by rw[Hid,xb.oQ];exact xq
  have ys:Hid (j7 [xw,yw]=true->gH s a=if aO (gR s.b y)then(⟨gR s.b y,s.t⟩,VW)else(s,sNo)):=λh=>by rw[J,gH,if_pos h,hy,yc,yd]
  have zl:Hid (j7 [xw,yw]=false->gH s a=(s,dR)):=λh=>by rw[J,gH,h];rfl
  have yx:Hid (aS [xw,yw]=[i1,i2]):=by rw[Hid,yc,yd];rfl
  obtain⟨GD,Z⟩:∃GD:Prop,GD=(j7 [xw,yw]=true):=⟨_,rfl⟩;have zt:Hid (GD↔j7 [xw,yw]=true):=by rw[Hid,Z]
  have zz:=aI hS;have yj:=IF (hS.b.book.trans xs.b);have L:=aI yj.1;have xv:Hid (ln b.fl<=1048576):=by rw[Hid];omega
  have yr:=aI yj.2;rw[hl]at xn ⊢;clear J hX xt hl hy yc yd Z yj xq
  go_enter Tryz.func34,Tryz.ntmps34
  go_wp2_with (go_at_call 45;refine(gQ _).mono ?_;rintro e w' ⟨⟨u,rfl⟩,xu⟩;rw[xu];clear xu)
  refine pG 7 [some 13,some 14,some 15,some 16,some 17,some 18,some 5] (IF2 (sl bl l 3 X) bl l nm (sl bl (l+1) 2 (X-1)) [i1,i2] GD w.heap.size) IF2.zL ?step ?fin
  case step=>
   intro ii o vs w' ym zk m p;have ql:=ctq m c0
   match ii,ym with
   |1,_|2,_|4,_=>
    cases zk
    simp[Region.binds,IF2]at p
    simp only[aD,Act.put,p];gi_wp2;exact⟨_,by simp[aH,p],rfl,br _ _⟩
   |0,_|3,_=>
    cases zk
    gi_wp2;exact⟨_,uhx,rfl,br _ _⟩
   |5,_=>
    cases zk
    simp[Region.binds,IF2]at p
    simp only[aD,Act.put,p];gi_wp2_with fail
    refine tqx ?_;refine(cw.2 (kE [xw,yw] (some (Y bl (l+1))) (X-1) w' (xi.zL m) sm)).mono ?_
    rintro e w5 ⟨⟨zq,v5,rfl,xr⟩|⟨zp,rfl⟩,zb⟩
    ·have HG:Hid GD:=zt.oQ.2 (pY zq)
     obtain⟨a5,c5,e5,H⟩:=FL (eN [xw,yw]).symm xr;rw[yx.oQ]at e5 H;subst e5;have xz:=aI H;clear H xr zq;gi_wp2;exact⟨.slice a5 2 c5,by simp[aH,p],⟨⟨a5,c5,rfl,xz.oQ⟩,HG.oQ⟩,zb⟩
    ·have HZ:=aI (zl.oQ (sA zp))
     have qe:=aI (aE m zb);clear zp zb;gi_wp2;exact⟨rfl,.inl ⟨HZ.oQ,rfl,qe.oQ⟩⟩
   |6,_=>
    cases zk
    gi_wp2;exact⟨_,uhx,⟨_,rfl,m.size,wnq w' _⟩,aC (br _ _) _⟩
   |q+7,h=>omega
  case fin=>
   intro vs w8 m hp;obtain⟨⟨a5,c5,e5,H⟩,Z⟩:=hp 5 dz;have e2:vs 2=.string nm:=hp 2 dz;obtain⟨P,e6,hP,za⟩:=hp 6 dz;have yk:aU (λr=>r=P) w8 (w8.setCell (Y P 0) (.string nm)):=(aU.refl (λr=>r=P) w8).set (g:=P) rfl _ _
   have xj:Xs 1 dV (w8.setCell (Y P 0) (.string nm)) a5 [i1,i2]:=H _ (λk c t ht hc=>yk.block k (iB hc) (λe=>by
    have e':k=P:=e;rw[e',za]at hc
    cases hc
    simp at ht))
   have yt:=aI (ys.oQ (zt.oQ.1 Z));have Q:Hid (aG w (w8.setCell (Y P 0) (.string nm))):=yk.under m (nlq _) (λk e=>by rw[e];exact hP);have yg:(w8.setCell (Y P 0) (.string nm)).heap[P]?=some (.cells #[.string nm] 9):=aP za 0 _;have t0:w8.cell? (Y P 0)=some (.string ⟨#[]⟩):=aB za rfl;have tf:=jS za;clear hp m H Z za yk ys zt yx zl xi c0 hS;simp only[lds,ldz,aD,Act.put];rw[e2,e5,e6];clear e2 e5 e6;generalize vs=vs;gi_wp2_with fail
   go_upto_region 3 with fail
   obtain⟨W2,xg⟩:=cI (w8.setCell (Y P 0) (.string nm));rw[xg]at xj Q yg ⊢;clear xg t0 tf;have zw:Hid (aG w W2):=Q.oQ;have p0:W2.cell? (Y P 0)=some (.string y.n):=by rw[xb.oQ];exact aB yg rfl
   rcases xj with h|⟨g,oo,rfl,yl⟩
   ·cases h
   have j0:W2.cell? (Y g oo)=some (I y.x):=by have:=yl 0 sm 0 _ rfl;rw[qh.oQ];simpa using this
   have j1:W2.cell? (Y g (oo+1))=some (I y.y):=by have:=yl 1 sm 0 _ rfl;rw[qi.oQ];simpa using this
   have zi:=zz.oQ.zL zw.oQ;obtain⟨x0,x1,x2,x3⟩:=zi.c;clear yl yg Q;go_wp2_with fail
   refine(VH b.fl b.fa b.fc P y.n W2 zi.b.inn.f (by have:=L.oQ;omega) p0).mono ?_;rintro e w3 ⟨xp,G⟩
   obtain⟨r,rfl,hr⟩:∃r:Int,e=rt (I r)/\((0<=r/\r=(qC b.fl y.n:Int))∨(r<0/\qC b.fl y.n=ln b.fl)):=by
    rcases xp with⟨_,h⟩|⟨h1,h⟩
    ·exact⟨_,h,.inl ⟨om,rfl⟩⟩
    ·exact⟨_,h,.inr ⟨om,h1⟩⟩
   have qf:=aI hr;have yv:=aI (aE zw.oQ G)
   replace p0:=ctq G p0
   replace j0:=ctq G j0
   replace j1:=ctq G j1
   obtain⟨x0,x1,x2,x3⟩:=(zi.zL G).c;clear xp hr G zi zw
   go_upto_if 27 with fail
   go_cut [7] (λv7 wx=>v7=I (qC b.fl y.n)/\wx=w3)
   case first=>
    rcases qf.oQ with⟨h0,rfl⟩|⟨h0,h1⟩
    ·have hd0:¬((qC b.fl y.n:Int)<0):=om
     go_wp2
     go_meet
     exact⟨rfl,rfl⟩
    ·have H1:=aI h1
     clear h1;go_wp2
     go_meet
     exact⟨by rw[H1.oQ],rfl⟩
   case rest=>
    obtain⟨rfl,rfl⟩:=hcut;have ze:Hid ((wc.alloc b.obj).heap[wc.heap.size]?=some b.obj):=wnq wc _;have zd:aG wc (wc.alloc b.obj):=aC (br _ _) _;have R:=aI (aE yv.oQ zd);have O:=aI yv.oQ.size;have A:Hid (wc.heap.size<(wc.alloc b.obj).heap.size):=by rw[Hid];simp
    replace j0:=ctq zd j0
    replace j1:=ctq zd j1
    replace p0:=ctq zd p0
    clear zd
    go_upto_region 7 with fail
    obtain⟨M,hM⟩:=cI wc.heap.size;obtain⟨U,zj⟩:=cI (wc.alloc b.obj);rw[zj]at ze R A j0 j1 p0;rw[hM]at ze O A
    first|rw[zj,hM]|(have zn:=zj;simp only[Bk.obj]at zn;rw[zn,hM])
    have HM:Hid (U.heap[M]?=some b.obj):=ze.oQ;have zx:Hid (aG w U):=R.oQ;have qb:Hid (w.heap.size<=M):=O.oQ;have qc:Hid (M<U.heap.size):=A.oQ;have yh:=zz.oQ.zL zx.oQ;have xx:Hid (∀q,F q->q<U.heap.size):=λq hq=>(yh.fl q hq).2;obtain⟨k,hk⟩:=bQ (qC b.fl y.n);have HK:Hid (k<=ln b.fl):=by rw[Hid,hk];exact aAG _ _
    have N:Hid (gY b.fl y=b.fl.take k++y::b.fl.drop k):=by rw[Hid,gY,←hk]
    have zu:Hid (ln (gY b.fl y)=ln b.fl+1):=by rw[Hid,N.oQ];have:=HK.oQ;simp;omega
    have qg:Hid (∀f∈gY b.fl y,f.n.size<=9223372036854775807):=λf hf=>by
     rw[N.oQ]at hf
     rcases lma.1 hf with h|h
     ·have:=yr.oQ f (lmt h);omega
     ·rcases lmc.1 h with rfl|h
      ·have:=qj.oQ;omega
      ·have:=yr.oQ f (lmd h);omega
    rw[←hk];clear hk zj hM ze R O A;refine pG 16 [some 38,some 39,some 40,some 41,some 42,some 43,some 44,some 45,some 46,some 47,some 48,some 49,some 50,some 51,some 52,some 53] (ZW S b k y (sl g oo 2 c5) g oo U.heap.size) ZW.zL ?step ?fin
    case step=>
     intro ii o vs w' ym zk m p;obtain⟨ql,z1z,z2z,z3z⟩:=(yh.zL m).c;have q0q:=ctq m p0;have j0j:=ctq m j0;have j1j:=ctq m j1
     match ii,ym with
     |1,_|2,_|3,_|4,_|9,_|10,_|12,_|13,_|14,_=>
      cases zk
      simp[Region.binds,ZW]at p
      simp only[aD,Act.put,p];gi_wp2;exact⟨_,by simp[aH,p],rfl,br _ _⟩
     |0,_|6,_|7,_|8,_|11,_=>
      cases zk
      gi_wp2;exact⟨_,uhx,rfl,br _ _⟩
     |5,_=>
      cases zk
      simp[Region.binds,ZW]at p
      simp only[aD,Act.put,p];gi_wp2_with fail
      refine tqx ?_;refine(cw.2 (AJ b.fl b.fa b.fc w' (yh.zL m).b.inn.f xv.oQ)).mono ?_;rintro e w5 ⟨⟨v5,rfl,z,xl⟩,zb⟩;have T:=aI (z.weak m.size);have zs:=aI xl;clear z xl;gi_wp2;exact⟨_,by simp[aH,p],⟨T.oQ,zs.oQ⟩,zb⟩
     |15,_=>
      cases zk
      simp[Region.binds,ZW]at p
      simp only[aD,Act.put,p];gi_wp2;exact⟨_,by simp[aH,p],⟨_,rfl,wnq w' _⟩,aC (br _ _) _⟩
     |q+16,h=>omega
    case fin=>
     intro vs w8 m hp;obtain⟨z,ye⟩:=hp 5 dz;have e6:vs 6=I k:=hp 6 dz;obtain⟨V,xd,hV⟩:=hp 15 dz;obtain⟨qk,xe,e5⟩:=z.slice;rw[e5]at z ye;have xc:=aI m.size;have T:=aI z;have zs:Hid (xe<=maxLen):=ye _ _ _ rfl;have xa:=aI hV;have yo:=aI m;clear hp m z ye hV;simp only[lds,ldz,aD,Act.put];rw[e5,e6,xd];clear e5 e6 xd;generalize vs=vs;gi_wp2_with fail
     refine tqx ?_;refine(cw.2 (L9 U.heap.size b.fl qk xe k V y w8 T.oQ zs.oQ HK.oQ (by have:=L.oQ;omega) xa.oQ xc.oQ)).mono ?_;rintro e w9 ⟨a9,W,rfl,xf,xm,xk⟩;have zc:aG U w9:=xk.under yo.oQ (nlq _) (λq hq=>ZN T.oQ q hq);have zf:w9.heap[M]?=some b.obj:=bJ HM.oQ zc;have qd:=aI (aE zx.oQ zc);have yi:aU (λq=>q=M) w9 (w9.setCell (Y M 1) (.slice a9 (ln b.fl+1) W)):=(aU.refl (λq=>q=M) w9).set (g:=M) rfl _ _;have zg:Hid (aG w (w9.setCell (Y M 1) (.slice a9 (ln b.fl+1) W))):=yi.under qd.oQ (nlq _) (λq e=>by rw[e];exact qb.oQ);have zv:Hid ((w9.setCell (Y M 1) (.slice a9 (ln b.fl+1) W)).heap[M]?=some (.cells #[I b.now,.slice a9 (ln b.fl+1) W,hs b] 32)):=aP zf 1 _;have zy:Hid (bW 34 3 Fx.cells (w9.setCell (Y M 1) (.slice a9 (ln b.fl+1) W)) U.heap.size (.slice a9 (ln b.fl+1) W) (b.fl.take k++y::b.fl.drop k)):=xf.but yi (λq e=>by rw[e];exact qc.oQ);obtain⟨m0,m1,m2⟩:=aM zf;have mf:∀i,w9.frozen? (Y M i)=false:=λi=>by simp[World.frozen?,zf,Bk.obj]
     have yq:Hid (W<=9223372036854775807):=by unfold maxLen at xm;rw[Hid];omega
     clear xf xm xk zc zf yi T xa yo xc;gi_wp2_with fail
     go_upto_region 8 with fail
     obtain⟨W9,xh⟩:=cI (w9.setCell (Y M 1) (.slice a9 (ln b.fl+1) W));rw[xh]at zg zv zy ⊢;clear xh m0 m1 m2 mf;have D:=zz.oQ.zL zg.oQ;obtain⟨b',j⟩:=bQ (⟨b.now,a9,gY b.fl y,W,b.ha,b.hl,b.hc⟩:Bk);have zh:Hid (bW 34 3 Fx.cells W9 U.heap.size (fs b') b'.fl):=by rw[Hid,j];show bW _ _ _ _ _ (.slice a9 (ln (gY b.fl y)) W) (gY b.fl y);rw[zu.oQ,N.oQ];exact zy.oQ
     have qa:Hid (W9.heap[M]?=some b'.obj):=by rw[Hid,j];show W9.heap[M]?=some (Obj.cells #[I b.now,.slice a9 (ln (gY b.fl y)) W,hs b] 32);rw[zu.oQ];exact zv.oQ
     have zr:=aI (j)
     have C:iX W9 b':=by
      have ha:=D.b.asks xs.b;obtain⟨ao',c',e,hx⟩:=LD zh.oQ
      cases e
      refine⟨hx,?_,FY zh.oQ,?_,?_,?_,?_,?_⟩
      ·have:=L.oQ;have:=zu.oQ;rw[j];show(ln (gY b.fl y))<=_;omega
      ·rw[j];exact yq.oQ
      ·rw[j];exact qg.oQ
      ·rw[j];exact ha.hh
      ·rw[j];exact ha.hnh
      ·rw[j];exact ha.hgood
     have yp:Hid (aO b'=aO (gR s.b y)):=by rw[Hid,j];exact nS (b:=gR s.b y) D.b.c.now (by show gY b.fl y=gY s.b.fl y;rw[D.b.c.fl]) D.b.c.lk
     obtain⟨m0,m1,m2⟩:=aM qa.oQ;have yb:=aI D;clear j zy zv D
     cases hbk:aO (gR s.b y)with
     |false=>
      have HR:Hid (gH s a=(s,sNo)):=by rw[Hid,yt.oQ,hbk];rfl
      go_wp2_with fail
      refine(tY C false (by rw[yp.oQ];exact hbk)).mono ?_;rintro e K ⟨rfl,d⟩;have yz:=aI (yb.oQ.zL d);have yu:=aI (aE zg.oQ d);clear d C hbk;go_wp2
      go_ret;exact .inr ⟨⟨F,b,v,by rw[HR.oQ];exact yz.oQ,λq hq=>.inl hq⟩,by rw[HR.oQ];rfl,aU.below yu.oQ⟩
     |true=>
      have HR:Hid (gH s a=(⟨gR s.b y,s.t⟩,VW)):=by rw[Hid,yt.oQ,hbk];rfl
      go_wp2_with fail
      refine(tY C true (by rw[yp.oQ];exact hbk)).mono ?_;rintro e K ⟨rfl,d⟩;have B:=yb.oQ.zL d;obtain⟨y0,y1,y2,y3⟩:=B.c;have yf:=B.fz
      replace m0:=ctq d m0
      replace m1:=ctq d m1
      replace m2:=ctq d m2
      have yy:Hid (lH (λq=>F q∨(U.heap.size<=q/\q<K.heap.size)) S (gI K S b') ⟨gR s.b y,s.t⟩ b' v):=by
       have zm:=zh.oQ.zL d;rw[zr.oQ]at zm;rw[Hid,zr.oQ];exact B.putF y xx.oQ zm yq.oQ
      have xy:Hid (∀q,(F q∨(U.heap.size<=q/\q<K.heap.size))->F q∨w.heap.size<=q):=λq hq=>hq.elim .inl (λh=>.inr (nlt zx.oQ.size h.1));have yn:Hid (aU F w (gI K S b')):=(aU.below (aE zg.oQ d)).trans ((dJ K S b').wide (λq e=>by rw[e];exact yb.oQ.fS));clear d C hbk B zh zr;go_wp2
      go_ret;exact .inr ⟨⟨_,b',v,by rw[HR.oQ];exact yy.oQ,xy.oQ⟩,by rw[HR.oQ];rfl,yn.oQ⟩
 ·have HR:Hid (gH s a=(s,dR)):=uR hl
  have hl':((ln a:Int)==3)=false:=by rw[bfn];omega
  clear hl
  go_enter Tryz.func34,Tryz.ntmps34
  go_wp2_with (go_at_call 45;refine(jU _).mono ?_;rintro e w' ⟨rfl,rfl⟩)
  exact⟨rfl,.inl ⟨HR.oQ,rfl,br _ _⟩⟩
variable {P:Program}{k:Array Oper}{c:List Oper}{o:Oper}{a:Act}{Q:Exit → Act → Wd → Prop}{T:Nat}{n:Ba}
theorem xG {P:Program}(w:Wd)(base:Nat)(t u p e:TypeId)(i:TypeInfo)(x:P.underlying t=some (.slice e))(y:P.underlying u=some .string)(q:P.info? e=some i)(B:i.zero=some (.int .u8 0))(a:i.size=1)(k:i.bytes=1)(v:Va)(n:Nat)(xs:List Va)(b:w.ownsRow base e 1 v n xs)(s:Ba)(d:n+s.size<=140737488355328)(h:base<=w.heap.size):
 ∃o w',(Builtin.append_ #[t,u] p #[v,.string s]).run P w=.ok o w'/\w'.ownsRow base e 1 o (n+s.size) (xs++Lib.strCells s)/\w.grownBy w' v.ownBlock/\(o.ownBlock=v.ownBlock∨o.ownBlock=some w.heap.size):=by
 obtain⟨o,w',r,C,D,F⟩:=Lib.run_append_own_string (P:=P) w base t u p e i x y q B a k v n xs b s (by unfold maxLen;omega) d h;refine⟨o,w',r,C,D,?_⟩;have A:ln xs=n:=by simpa using b.1
 rcases b.2 with⟨rfl,rfl⟩|⟨g,f,z,rfl,hbg,G,hnc,hcm,hcs,htake⟩
 ·by_cases H:s.size=0;·rw[F.2 ⟨rfl,H⟩];exact .inl rfl
  ·have c:=run_append_nil_string (P:=P) w t u p e i (.int .u8 0) x y q B s om om (by rw[k];omega);cases r.symm.trans c;exact .inr rfl
 ·by_cases m:n+s.size<=f
  ·have c:=Lib.run_append_room_string (P:=P) w t u p e i x y q a g n f z G s m om;cases r.symm.trans c;exact .inl rfl
  ·have l:∀j u,xs[j]?=some u->w.cell? (((Y g 0):Addr).add j)=some u:=b.cells (g:=g) rfl;have c:=Lib.run_append_grow_string (P:=P) w t u p e i (.int .u8 0) x y q B (Y g 0) n f xs (by rw[a];simpa using A) l s om om (by rw[k];exact growslice_fits om om);cases r.symm.trans c;exact .inr rfl
theorem Tryz.infoBld:(prog.info? 60).map (λj=>j.size)=some 2:=kr
theorem oU (m:o.guard=none) (p x:Operand) (t u:TypeId) (B:o.op=.call { callee:=.builtin .append,args:=#[p,x],argTypes:=#[t,u]})
 (base:Nat) (e:TypeId) (i:TypeInfo) (F:P.underlying t=some (.slice e)) (G:P.underlying u=some .string) (A:P.info? e=some i) (H:i.zero=some (.int .u8 0)) (f:i.size=1) (l:i.bytes=1) (v:Va) (n:Nat) (xs:List Va) (D:a.eval p=v) (j:w.ownsRow base e 1 v n xs) (s:Ba) (hx:a.eval x=.string s) (b:n+s.size<=140737488355328) (d:base<=w.heap.size)
 (h:∀g w',w'.ownsRow base e 1 g (n+s.size) (xs++Lib.strCells s)->w.grownBy w' v.ownBlock->(g.ownBlock=v.ownBlock∨g.ownBlock=some w.heap.size)->wpList P k Q c (a.put o.dst g) w'):wpList P k Q (o::c) a w:=by
 refine wpList_plain m λK z=>?_;obtain⟨g,w',C,q,r,y⟩:=xG (P:=P) w base t u o.type e i F G A H f l v n xs j s b d;unfold Oper.wp execOp;simp only[B,resolve,invoke,builtin,Sem.run_bind,Sem.run_pure,Result.andThen_ok,List.map_toArray,List.map_cons,List.map_nil,D,hx,C];exact z _ _ (h g w' q r y)
structure LO (T:Nat)(v:Value)(o:ByteArray)(w:World):Prop where
 c:∃p:Option Addr,(p=none∨p=some ⟨T,0,none⟩)/\w.heap[T]?=some (.cells #[.pointer p,v] 60)
 r:w.ownsRow 8 5 1 v o.size (Lib.strCells o)
 n:v.ownBlock≠some T
theorem BB (T:Nat)(w:Wd)(h0:w.cell? (Y T 0)=some (E T 0)):
 aW 43 #[E T 0] w λe w'=>(∃v,e=rt v)/\w'=w:=by
 obtain⟨j,a,_⟩:=Option.map_eq_some_iff.1 Tryz.infoBld;go_enter func43,ntmps43;go_wp2;rw[Lib.run_neq_ptr_same w _ underlying58 a];go_wp2;exact bodyPost_end (results_none rfl _ _ _) rfl ⟨⟨_,rfl⟩,rfl⟩
theorem zC (T:Nat)(w:Wd)(h0:w.cell? (Y T 0)=some (.pointer none))(a:w.shape? T=some (60,2))(hfz:∀i,w.frozen? (Y T i)=false):
 aW 43 #[E T 0] w λe w'=>(∃v,e=rt v)/\w'=w.setCell (Y T 0) (E T 0):=by
 obtain⟨j,c,b⟩:=Option.map_eq_some_iff.1 Tryz.infoBld;go_enter func43,ntmps43;go_wp2;rw[Lib.run_to_unsafe w (Y T 0) underlying58 underlying139 c (by rw[b];decide) a (Nat.zero_lt_succ 1)];simp only[Result.andThen];rw[Oper.upon_value];go_wp2;rw[rce func90 kr kr kr (e:=Extern.AbiNoEscape.same) kr];rw[Lib.run_noEscape];simp only[Result.andThen];rw[Oper.upon_value];go_wp2;rw[Lib.run_from_unsafe w (Y T 0) underlying139 underlying58 c a kr];simp only[Result.andThen];rw[Oper.upon_value];go_wp2;exact bodyPost_end (results_none rfl _ _ _) rfl ⟨⟨_,rfl⟩,rfl⟩
theorem EO (h:LO T v n w):
 aW 43 #[E T 0] w λe w'=>(∃u,e=rt u)/\w'.heap[T]?=some (.cells #[E T 0,v] 60)/\aU (λk=>k=T) w w':=by
 obtain⟨p,rfl|rfl,a⟩:=h.c
 ·refine(zC T w (aB a rfl) (by simp[World.shape?,a]) (λi=>by simp[World.frozen?,a])).mono ?_;rintro e w' ⟨⟨u,rfl⟩,rfl⟩;exact⟨⟨u,rfl⟩,aP a 0 _,(aU.refl (λk=>k=T) w).set (g:=T) rfl _ _⟩
 ·refine(BB T w (aB a rfl)).mono ?_;rintro e w' ⟨⟨u,rfl⟩,rfl⟩;exact⟨⟨u,rfl⟩,a,aU.refl _ _⟩
theorem Tryz.infoByte8:(prog.info? 5).map (λi=>(i.zero,i.size,i.bytes))=some (some (.int .u8 0),1,1):=kr
theorem IV (a b:Ba):Lib.strCells (a++b)=Lib.strCells a++Lib.strCells b:=by simp[Lib.strCells]
theorem xU (T:Nat)(v:Va)(o s:Ba)(w:Wd)(h:LO T v o w)(hlen:o.size+s.size<=140737488355328)(h8:8<=w.heap.size):
 aW 19 #[E T 0,.string s] w λe w'=>(∃F,e=rt (.tuple #[I s.size,.nilIface])/\LO T F (o++s) w'/\∀k,F.ownBlock=some k->v.ownBlock=some k∨w.heap.size<=k)/\aU (λk=>k=T∨v.ownBlock=some k) w w':=by
 obtain⟨U,R,L,M,N⟩:=info_parts Tryz.infoByte8
 go_enter func19,ntmps19
 go_wp2_with fail
 refine(EO h).mono ?_;rintro e w1 ⟨⟨u,rfl⟩,y,l⟩
 have D:w1.ownsRow 8 5 1 v o.size (Lib.strCells o):=jI h.r (λk Q _ t=>l.block k (iB t) (λe=>by
  have J:k=T:=e;obtain⟨p,_,x⟩:=h.c;rw[J,x]at t
  simp at t))
 have P:w1.cell? (Y T 1)=some v:=aB y rfl;have hs1:=l.size
 go_wp2_with (at_builtin;refine oU rfl _ _ 22 9 rfl 8 5 U underlying22 underlying9 R L M N _ _ _ rfl D s rfl ?c4 ?c5 ?_)
 case c4=>omega
 case c5=>omega
 intro F f b a B;have m:aU (λk=>v.ownBlock=some k) w1 f:=⟨a.os,a.tape,a.output,a.size,λk C S=>a.block k C (λe=>S e.symm)⟩;have d:f.heap[T]?=some (.cells #[E T 0,v] 60):=bF y m h.n
 obtain⟨i,A,j,rfl⟩:∃i A j,F=.slice i A j:=by
  rcases b.2 with⟨K,_⟩|⟨g,cap,cur,K,_⟩
  ·exact⟨_,_,_,K⟩
  ·exact⟨_,_,_,K⟩
 have d1:f.cell? (Y T 1)=some v:=aB d rfl;have f1:=jS d;have q:aU (λk=>k=T) f (f.setCell (Y T 1) (.slice i A j)):=(aU.refl (λk=>k=T) f).set (g:=T) rfl _ _
 have z:∀k,(Value.slice i A j).ownBlock=some k->v.ownBlock=some k∨w.heap.size<=k:=λk C=>by
  rcases B with ha|ha
  ·exact .inl (ha▸C)
  ·rw[ha]at C
   have:w1.heap.size=k:=by simpa using C
   exact .inr om
 have G:Hid (aU (λk=>k=T∨v.ownBlock=some k) w (f.setCell (Y T 1) (.slice i A j))):=((l.wide (λ_ e=>.inl e)).trans (m.wide (λ_ e=>.inr e))).trans (q.wide (λ_ e=>.inl e))
 have H:Hid (LO T (.slice i A j) (o++s) (f.setCell (Y T 1) (.slice i A j))):=by
  refine⟨⟨_,.inr rfl,aP d 1 _⟩,?_,λe=>?_⟩
  ·rw[bsz,IV]
   exact jI b (λk Q _ t=>q.block k (iB t) (λe=>by
    have J:k=T:=e;rw[J,d]at t
    simp at t))
  ·rcases z T e with g|g
   ·exact h.n g
   ·obtain⟨p,_,x⟩:=h.c
    have:=iB x;omega
 have O:=aI z;clear b a B m q z d y D P;go_wp2
 exact bpr (v:=.tuple #[I s.size,.nilIface]) (by simp[results,results19,go_sem]) rfl ⟨⟨_,rfl,H.oQ,O.oQ⟩,G.oQ⟩
variable {S S':Nat → Prop}{a w':Wd}{n e m:Nat}{l:Va}{o:Ba}{xs:List Va}{b:Bk}{ta:Oa}{k:List Ba}{c:Int}{L:List Sp}
theorem aU.past (h:aU S a w)(g:aU S' w w')(d:∀k,S' k->S k∨a.heap.size<=k):aU S a w':=⟨g.os.trans h.os,g.tape.trans h.tape,g.output.trans h.output,nlt h.size g.size,λk b c=>(g.block k (nll b h.size) (λe=>(d k e).elim c (λe2=>absurd b om))).trans (h.block k b c)⟩
theorem LO.zL {w w':Wd}(h:LO T v o w)(a:aG w w'):LO T v o w':=by
 obtain⟨p,d,b⟩:=h.c;exact⟨⟨p,d,bJ b a⟩,dC h.r a,h.n⟩
theorem XI (h:w.ownsRow T e sz v m xs)(i:∀k,v.ownBlock=some k->n<=k):w.ownsRow n e sz v m xs:=by
 obtain⟨c,h|⟨g,a,b,d,h2,f⟩⟩:=h;·exact⟨c,.inl h⟩
 ·exact⟨c,.inr ⟨g,a,b,d,i g (by rw[d];rfl),f⟩⟩
theorem DK (h:LO T v o w)(B:Nat)(f:B<=T)(j:∀k,v.ownBlock=some k->B<=k)(b:B<=w.heap.size):
 aW 21 #[E T 0] w λe w'=>e=rt (.string o)/\Below B w w':=by
 have i:Lib.IsBuilder 60 5 B T (Lib.byteCells o.data.toList) w:=by
  have g:w.ownsRow B 5 1 v (ln (Lib.byteCells o.data.toList)) (Lib.byteCells o.data.toList):=by
   rw[←Lib.strCells_eq,Lib.strCells_length];exact XI h.r j
  obtain⟨p,d|d,a⟩:=h.c
  ·rw[d]at a;exact .inl ⟨f,v,a,g,h.n⟩
  ·rw[d]at a;exact .inr ⟨f,v,a,g,h.n⟩
 exact Tryz.Builder_String_any B T o.data.toList w i b
theorem lH.tb (h:lH S' T w s b (.slice ta (ln s.t) n)):jG w ta s.t:=by
 obtain⟨ta',tc',e,hx⟩:=h.hv;cases e;exact hx
theorem yA {s:St}(h:¬(ln k)=2):oC s k=(s,dR):=by
 unfold oC;split;·simp at h
 ·rfl
def IK2 (vw:Value)(bl off:Nat)(nm x:ByteArray)(n:Int)(j:Nat)(v:Value)(_w:World):Prop:=
 match j with
 |0|3=>v=vw
 |1=>v=(E bl off)
 |2=>v=.string nm
 |4=>v=(E bl (off+1))
 |5=>v=.string x
 |6=>v=I n/\0<=n
 |_=>True
def IK4 (S:Nat)(b:Bk)(nm:ByteArray)(tv:Value)(most:Int)(L:List Sp)(E:Prop)(Z:Nat)(j:Nat)(v:Value)(w:World):Prop:=
 match j with
 |0|1|2|5|6=>v=.pointer (some (Y S 0))
 |3=>v=b.val
 |4=>v=.string nm
 |7=>v=.pointer (some (Y S 3))
 |8=>v=tv
 |9=>v=I most
 |10=>lI w Z v L/\E
 |11=>v=I L.length
 |12=>v=I 0
 |_=>True
theorem IK4.zL {a:Prop}(j:Nat)(v:Va)(w w':Wd)(d:IK4 T b o l c L a n j v w)(f:aG w w'):IK4 T b o l c L a n j v w':=by
 unfold IK4 at*;split at d
 all_goals first
  |exact d
  |(exact⟨d.1.zL f,d.2⟩)
theorem R6 (F:Nat->Prop)(S:Nat)(w:Wd)(s:St)(b:Bk)(v:Va)(hS:lH F S w s b v)(kk:Nat)(zw:jF kk s)(hkk:kk<=1000)(a:List Ba)(ao:Oa)(yq:Nat)(hX:Xs 1 eE w ao a):
 aW 41 #[E S 0,.slice ao (ln a) yq] w λe w'=>XT F S w s (oC s a) e w':=by
 by_cases hl:ln a=2
 ·obtain⟨nm,x,rfl⟩:∃nm x,a=[nm,x]:=by
   match a,hl with
   |[nm,x],_=>exact⟨nm,x,rfl⟩
  obtain⟨ta,tc,rfl,_⟩:=hS.hv;have M:=aI hS
  rcases hX with h|⟨bl,i,rfl,zs⟩
  ·cases h
  have c0:w.cell? (Y bl i)=some (.string nm):=by have:=zs 0 sm 0 _ rfl;simpa using this
  have c1:w.cell? (Y bl (i+1))=some (.string x):=by have:=zs 1 sm 0 _ rfl;simpa using this
  clear hl zs;obtain⟨n,hx⟩:=cI (aV x);have yp:=aI hx;have yc:Hid (n=-1->oC s [nm,x]=(s,dR)):=λh=>by rw[oC,hx,if_neg om]
  have xt:Hid (0<=n->oC s [nm,x]=(s,nO s.b nm s.t n)):=λh=>by rw[oC,hx,if_pos h]
  have yl:Hid (ln s.t<=1048576):=by rw[Hid];have:=zw.t;omega
  clear hx hS
  go_enter Tryz.func41,Tryz.ntmps41
  go_wp2_with (go_at_call 45;refine(gQ _).mono ?_;rintro e w' ⟨⟨u,rfl⟩,xh⟩;rw[xh];clear xh)
  refine pG 7 [some 16,some 17,some 18,some 19,some 20,some 21,some 22] (IK2 (sl bl i 2 yq) bl i nm x n) (λ_ _ _ _ h _=>h) ?step ?fin
  case step=>
   intro ii o m w' V H f j;have xj:=ctq f c0;have xk:=ctq f c1
   match ii,V with
   |1,_|2,_|4,_|5,_=>
    cases H
    simp[Region.binds,IK2]at j
    simp only[aD,Act.put,j];gi_wp2;exact⟨_,by simp[aH,j],rfl,br _ _⟩
   |0,_|3,_=>
    cases H
    gi_wp2;exact⟨_,uhx,rfl,br _ _⟩
   |6,_=>
    cases H
    simp[Region.binds,IK2]at j
    simp only[aD,Act.put,j];gi_wp2_with fail
    refine tqx ?_;refine(cw.2 (pZ x w')).mono ?_
    rintro e w5 ⟨⟨h0,rfl⟩|⟨h1,rfl⟩,zd⟩
    ·rw[yp.oQ]at h0 ⊢
     rw[zd];clear zd;gi_wp2;exact⟨_,by simp[aH,j],⟨rfl,h0⟩,br _ _⟩
    ·have HZ:Hid (oC s [nm,x]=(s,dR)):=yc.oQ (by rw[←yp.oQ];exact h1)
     rw[zd];clear zd h1;gi_wp2;exact⟨rfl,.inl ⟨HZ.oQ,rfl,f⟩⟩
   |q+7,h=>omega
  case fin=>
   intro m W f l;obtain⟨e6,xa⟩:=l 6 dz;have e2:m 2=.string nm:=l 2 dz;have HR:Hid (oC s [nm,x]=(s,nO s.b nm s.t n)):=xt.oQ xa;have yb:aG W (W.alloc (.cells #[.pointer none,ms] 60)):=aC (br _ _) _;have zf:=aI (aE f yb);have A:Hid (LO W.heap.size (ms) ⟨#[]⟩ (W.alloc (.cells #[.pointer none,ms] 60))):=⟨⟨none,.inl rfl,wnq W _⟩,⟨rfl,.inl ⟨rfl,rfl⟩⟩,by simp[Value.ownBlock]⟩;have N:=aI f.size;have B:Hid (W.heap.size<(W.alloc (.cells #[.pointer none,ms] 60)).heap.size):=by rw[Hid];simp
   clear l f yb xa;simp only[lds,ldz,aD,Act.put];rw[e2,e6];clear e2 e6;generalize m=m;gi_wp2_with fail
   go_upto_region 4 with fail
   obtain⟨T,hT⟩:=cI W.heap.size;obtain⟨W1,yv⟩:=cI (W.alloc (.cells #[.pointer none,ms] 60));rw[yv]at zf A B ⊢;rw[hT]at A N B ⊢;have xp:Hid (LO T (ms) ⟨#[]⟩ W1):=A.oQ;have zi:Hid (w.heap.size<=T):=N.oQ;have xw:Hid (T<W1.heap.size):=B.oQ;have Z:=M.oQ.zL zf.oQ;obtain⟨L,hL⟩:=cI (oX s.b nm s.t n);have HL:=aI hL;clear yv hT hL A N B;refine wpIn_wide.1 (wJ (F:=Fence.wide) (n:=0) kr 13 [some 23,some 24,some 25,some 26,some 27,some 28,some 29,some 30,some 31,some 32,some 33,some 34,some 35] rfl (IK4 S b nm (.slice ta (ln s.t) tc) n L (eV s.b nm s.t n L) W1.heap.size) IK4.zL kr ?step ?fin)
   case step=>
    intro ii o m w' V H f j;obtain⟨xj,xk,qd,qe⟩:=(Z.zL f).c
    match ii,V with
    |1,_|2,_|3,_|6,_|7,_|8,_=>
     cases H
     simp[Region.binds,IK4]at j
     simp only[aD,Act.put,j];gi_wp2;exact⟨_,by simp[aH,j],rfl,br _ _⟩
    |0,_|4,_|5,_|9,_|12,_=>
     cases H
     gi_wp2;exact⟨_,uhx,rfl,br _ _⟩
    |10,_=>
     cases H
     simp[Region.binds,IK4]at j
     simp only[aD,Act.put,j];gi_wp2_with fail
     refine tqx ?_;refine(cw.2 (TC (Z.zL f).b zw.b nm s.t ta tc n (Z.zL f).tb yl.oQ)).mono ?_;rintro e w5 ⟨⟨v5,rfl,D,zp⟩,z⟩;rw[HL.oQ]at D zp;have xv:=aI (D.weak f.size);have xu:=aI zp;clear D zp;gi_wp2;exact⟨_,by simp[aH,j],⟨xv.oQ,xu.oQ⟩,z⟩
    |11,_=>
     cases H
     obtain⟨D,_⟩:=Zq j 10;obtain⟨ao,cp,yr,_⟩:=D.xs;clear D j;simp only[aD,Act.put,yr];gi_wp2;exact⟨_,by simp[aH,yr],rfl,br _ _⟩
    |q+13,h=>omega
   case fin=>
    intro m w4 f l;obtain⟨zq,zn⟩:=l 10 dz;have ys:m 11=I (ln L):=l 11 dz;have yt:m 12=I 0:=l 12 dz;have zv:=zO zn;have hl3:=zn.len;have yi:=aI (aE zf.oQ f);have xq:=aI (xp.oQ.zL f);obtain⟨ao,cp,C,xi⟩:=zq.xs;have yo:=aI xi
    have yh:Hid (∀g i,ao=some (Y g i)->g≠T):=λg i e e2=>by
     rcases zq with⟨h,_⟩|⟨g',cap',h1,h2,_⟩
     ·rw[h]at C
      injection C with e3
      rw[←e3]at e
      cases e
     ·rw[h1]at C
      cases C
      cases e
      have:=xw.oQ;omega
    clear l f zq xi zn Z;simp only[aD,Act.put,sit,lcs,lcz,Nat.reduceAdd];rw[C,ys,yt];clear C ys yt;generalize m=m;gi_wp2_with fail
    go_wp2
    obtain⟨W4,hW4⟩:=bQ w4;have xm:Hid (LO T (ms) ((L.take 0).foldl nB ⟨#[]⟩) w4):=xq.oQ
    go_loopw [35] (λiv wr=>∃k:Nat,k<=ln L/\iv=I k/\∃bv:Va,Hid (LO T bv ((L.take k).foldl nB ⟨#[]⟩) wr)/\Hid (∀q,bv.ownBlock=some q->w4.heap.size<=q)/\Hid (aU (λr=>r=T) w4 wr)) (λiv _=>ln L-(intOf iv).toNat)
    case atStart=>exact⟨0,nz _,rfl,_,xm,λq hq=>by simp[Value.ownBlock]at hq,aU.refl _ _⟩
    case round=>
     obtain⟨k,hk,rfl,bv,HD,HV,HW⟩:=hrel;have zc:=xY (L.take k) (λp l=>⟨(zv p (lmt l)).2.1,(zv p (lmt l)).2.2.2⟩) ⟨#[]⟩;have ze:ln (L.take k)<=301:=by rw[llt];omega
     have xf:(ByteArray.mk #[]).size=0:=rfl;have zg:Hid (aG w wr):=HW.oQ.under yi.oQ (nlq _) (λk e=>by rw[e];exact zi.oQ)
     by_cases G:k<ln L
     ·have yz:(k:Int)<(ln L:Int):=om
      rcases yo.oQ with h|⟨g,i,yw,zt⟩
      ·rw[h]at G;simp at G
      have yg:=aI (yh.oQ g i yw);subst yw;have k0:wr.cell? (Y g (i+k*2))=some (I L[k].lo):=HW.oQ.cell yg.oQ (zt k G 0 _ rfl);have k1:wr.cell? (Y g (i+k*2+1))=some (I L[k].hi):=HW.oQ.cell yg.oQ (zt k G 1 _ rfl);obtain⟨xc,zx,xd,zy⟩:=zv _ (lgm G);have y:(L.take (k+1)).foldl nB ⟨#[]⟩=nB ((L.take k).foldl nB ⟨#[]⟩) L[k]:=by rw[tsa G,List.foldl_append];rfl
      obtain⟨s0,xe⟩:∃s,s=(L.take k).foldl nB ⟨#[]⟩:=⟨_,rfl⟩;obtain⟨p,l⟩:=bQ (L[k]);rw[←xe]at y zc HD;rw[←l]at y k0 k1 xc zx xd zy;clear xe l zt
      have qc:(qU p.lo p.hi).size<=4000003:=by
       have:=bD zx;have:=bD zy;have e1:WC.size=1:=rfl;simp only[qU,bsz,e1];omega
      have g1:¬9223372036854775807<(qU p.lo p.hi).size+1:=om
      have HT:Hid ((L.take (k+1)).foldl nB ⟨#[]⟩=s0++(qU p.lo p.hi++⟨#[32]⟩)):=by rw[Hid,y,nB,qU];simp only[ByteArray.append_assoc]
      have zk:Hid (s0.size+(qU p.lo p.hi++⟨#[32]⟩).size<=140737488355328):=by
       have e1:(ByteArray.mk #[32]).size=1:=rfl;rw[Hid,bsz,e1];omega
      obtain⟨ft,zu⟩:=bQ (qU p.lo p.hi);rw[←zu]at HT zk g1;obtain⟨st,xz⟩:=cI (ft++⟨#[32]⟩);rw[xz]at HT zk;have xr:=aI zu.symm;clear zu qc y zc ze xf;have zb:aG wr (wr.alloc (.cells #[I p.lo,I p.hi] 134)):=aC (br _ _) _;have q0:(wr.alloc (.cells #[I p.lo,I p.hi] 134)).cell? (ya wr 0)=some (I p.lo):=aB (wnq wr _) rfl;have q1:(wr.alloc (.cells #[I p.lo,I p.hi] 134)).cell? (ya wr 1)=some (I p.hi):=aB (wnq wr _) rfl;have yd:=aI (HD.oQ.zL zb);have yn:=aI (HW.oQ.trans (aU.below zb));have zm:zP (wr.alloc (.cells #[I p.lo,I p.hi] 134)):=M.oQ.e.zL (aE zg.oQ zb);clear HD HW zb;go_wp2_with fail
      refine(C9 p.lo p.hi _ zm xc zx xd zy).mono ?_;rintro e w5 ⟨rfl,z⟩;rw[xr.oQ];have ye:=aI (yd.oQ.zL z);have zj:=aI (yn.oQ.trans (aU.below z));have xl:=aI ((zm.zL z).s);clear z yd yn zm q0 q1 k0 k1;go_wp2_with fail
      refine(xU T bv s0 st w5 ye.oQ zk.oQ xl.oQ).mono ?_;rintro e w6 ⟨⟨zl,rfl,yu,xg⟩,yx⟩;have xn:Hid (LO T zl ((L.take (k+1)).foldl nB ⟨#[]⟩) w6):=by rw[Hid,HT.oQ];exact yu
      have xx:Hid (∀q,zl.ownBlock=some q->w4.heap.size<=q):=λq hq=>(xg q hq).elim (HV.oQ q) (λh=>nlt zj.oQ.size h);have xy:Hid (aU (λr=>r=T) w4 w6):=zj.oQ.past yx (λk e=>e.elim .inl (λe=>.inr (HV.oQ k e)));clear yu xg yx ye zj HT;go_wp2
      go_roundw
      case rel=>exact⟨k+1,om,gn,zl,xn,xx,xy⟩
      case measure=>simp[intOf];omega
     ·have yz:¬(k:Int)<(ln L:Int):=om
      have yy:L.take k=L:=ltl om;rw[yy]at zc ze HD;clear yy;obtain⟨O,zr⟩:=bQ (L.foldl nB ⟨#[]⟩);rw[←zr]at zc HD;have yj:=aI zr;have ym:Hid (∀q,bv.ownBlock=some q->w.heap.size<=q):=λq hq=>nlt yi.oQ.size (HV.oQ q hq);have za:=M.oQ.zL zg.oQ;obtain⟨oe,xb⟩:∃o,o=qO s.b nm s.t n:=⟨_,rfl⟩;have HO:=aI xb;clear xb zr yo HV HW
      go_upto_region 9 with fail
      refine pG 15 [some 48,some 49,some 50,some 51,some 52,some 53,some 54,some 55,some 56,some 57,some 58,some 47,some 59,some 60,some 10] (DB7 S b nm (.slice ta (ln s.t) tc) n oe (eG s.b nm s.t n oe)) (λ_ _ _ _ h _=>h) ?step ?fin
      case step=>
       intro ii o m w' V H f j;obtain⟨xj,xk,qd,qe⟩:=(za.zL f).c
       match ii,V with
       |1,_|2,_|3,_|6,_|7,_|8,_|11,_|12,_|13,_|14,_=>
        cases H
        simp[Region.binds,DB7]at j
        simp only[aD,Act.put,j];gi_wp2;exact⟨_,by simp[aH,j],rfl,br _ _⟩
       |0,_|4,_|5,_|9,_=>
        cases H
        gi_wp2;exact⟨_,uhx,rfl,br _ _⟩
       |10,_=>
        cases H
        simp[Region.binds,DB7]at j
        simp only[aD,Act.put,j];gi_wp2_with fail
        refine tqx ?_;refine(cw.2 (VJ (za.zL f).b zw.b nm s.t ta tc n (za.zL f).tb yl.oQ)).mono ?_;rintro e w5 ⟨⟨rfl,hE⟩,z⟩;rw[←HO.oQ]at hE;rw[←HO.oQ,JZ];have HE:=aI hE;clear hE;gi_wp2;exact⟨_,by simp[aH,j],⟨rfl,HE.oQ⟩,z⟩
       |q+15,h=>omega
      case fin=>
       intro m W f l;have HE:Hid (eG s.b nm s.t n oe):=(l 10 dz).2;have J:=aI (aE zg.oQ f);have yf:=aI (HD.oQ.zL f);clear f za
       cases oe with
       |none=>
        have P:m 13=.bool false:=l 13 dz;have Q:m 14=I 0:=l 14 dz;clear l;simp only[lds,ldz,aD,Act.put];rw[P,Q];clear P Q;generalize m=m;have zh:Hid (nO s.b nm s.t n=O++⟨#[110,101,118,101,114]⟩):=by rw[Hid,nO,←HO.oQ,HL.oQ,←yj.oQ];rfl
        have g1:¬9223372036854775807<O.size+5:=om
        gi_wp2_with fail
        go_wp2_with fail
        refine(DK yf.oQ w.heap.size zi.oQ ym.oQ J.oQ.size).mono ?_;rintro e w9 ⟨rfl,U⟩;have K:=aI (J.oQ.trans U);have X:=aI (M.oQ.zL K.oQ);clear U;go_wp2
        go_ret;exact .inr ⟨⟨F,b,_,by rw[HR.oQ];exact X.oQ,λk hk=>.inl hk⟩,by rw[HR.oQ,zh.oQ];rfl,aU.below K.oQ⟩
       |some d=>
        have P:m 13=.bool true:=l 13 dz;have Q:m 14=I d:=l 14 dz;clear l;simp only[lds,ldz,aD,Act.put];rw[P,Q];clear P Q;generalize m=m;obtain⟨qa,qb⟩:=IA HE.oQ;have zh:Hid (nO s.b nm s.t n=O++⟨#[102,114,101,101,32]⟩++dH d):=by rw[Hid,nO,←HO.oQ,HL.oQ,←yj.oQ];rfl
        have g1:¬9223372036854775807<O.size+5:=om
        have hds:=bD qb;have g2:¬9223372036854775807<O.size+5+(dH d).size:=om
        gi_wp2_with fail
        go_wp2_with fail
        refine(DK yf.oQ w.heap.size zi.oQ ym.oQ J.oQ.size).mono ?_;rintro e w9 ⟨rfl,U⟩;have K:=aI (J.oQ.trans U);have X:=aI (M.oQ.zL K.oQ);clear U J;go_wp2_with fail
        refine(wO d w9 X.oQ.e qa om).mono ?_;rintro e w10 ⟨rfl,R⟩;have zz:=aI (aE K.oQ R);have yk:=aI (X.oQ.zL R);clear R;go_wp2
        go_ret;exact .inr ⟨⟨F,b,_,by rw[HR.oQ];exact yk.oQ,λk hk=>.inl hk⟩,by rw[HR.oQ,zh.oQ];rfl,aU.below zz.oQ⟩
 ·have HR:Hid (oC s a=(s,dR)):=yA hl
  have hl':((ln a:Int)==2)=false:=by rw[bfn];omega
  clear hl
  go_enter Tryz.func41,Tryz.ntmps41
  go_wp2_with (go_at_call 45;refine(jU _).mono ?_;rintro e w' ⟨rfl,rfl⟩)
  exact⟨rfl,.inl ⟨HR.oQ,rfl,br _ _⟩⟩
variable {H:Nat}{x:Hx}{h:Va}{b c d e f g:Ba}{a:List Ba}
def lE (h:Hx):ByteArray:=h.n++⟨#[58]⟩++iS h.tl++⟨#[47]⟩++iS h.nl
theorem QQ (o:Ba)(h:Hx):mY o h=o++(sSp++lE h):=by
 simp only[mY,lE,ByteArray.append_assoc]
theorem F7:∀(l:List Hx) (o:Ba),l.foldl mY o=o++⟨(Lib.joinTail [32] (l.map λh=>(lE h).data.toList)).toArray⟩
 |[],o=>by
  apply ByteArray.ext;simp[Lib.joinTail]
 |h::r,o=>by
  rw[List.foldl_cons,F7 r,QQ];apply ByteArray.ext;apply Array.ext';simp[Lib.joinTail]
theorem UU (b:Bk):(⟨(Lib.join ((dH b.now::b.hl.map lE).map (·.data.toList)) [32]).toArray⟩:Ba)=rC b:=by
 unfold rC;rw[F7];apply ByteArray.ext;apply Array.ext';rw[List.map_cons,Lib.join_cons];simp[List.map_map];rfl
def ZE (H:Nat)(x:Hx)(v5:Value)(s1 s2 s3 s4 s5 s6:ByteArray)(j:Nat)(v:Value)(w:World):Prop:=
 match j with
 |0=>v=v5
 |1=>v=(E H 0)
 |2=>v=.string x.n
 |3=>v=.string s1
 |4=>v=(E H 1)
 |5=>v=.slice x.ta x.tl.length x.tc
 |6=>v=.string s2
 |7=>v=.string s3
 |8=>v=.string s4
 |9=>v=(E H 2)
 |10=>v=.slice x.na x.nl.length x.nc
 |11=>v=.string s5
 |12=>v=.string s6
 |13=>∃p,v=.slice (some (Y p 0)) 1 1/\w.heap[p]?=some (.cells #[.string s6] 9)
 |_=>True
theorem ZE.zL (j:Nat)(v:Va)(w w':Wd)(a:ZE H x h b c d e f g j v w)(l:aG w w'):ZE H x h b c d e f g j v w':=by
 unfold ZE at*;split at a
 all_goals first
  |exact a
  |(obtain⟨p,i,k⟩:=a;exact⟨p,i,bJ k l⟩)
theorem TS (h:¬(ln a)=0):yK s a=(s,dR):=by
 unfold yK;split;·simp at h
 ·rfl
theorem UR (F:Nat->Prop)(S:Nat)(w:Wd)(s:St)(b:Bk)(v:Va)(hS:lH F S w s b v)(kk:Nat)(ym:jF kk s)(a:List Ba)(ao:Oa)(U:Nat):
 aW 42 #[E S 0,.slice ao (ln a) U] w λe w'=>XT F S w s (yK s a) e w':=by
 obtain⟨yq,zi,yn,yo,yp⟩:=info_parts Tryz.infoStr
 by_cases hl:ln a=0
 ·have HR:Hid (yK s a=(s,rC s.b)):=by rw[enl hl];rfl
  have yi:((ln a:Int)==0)=true:=by rw[beq_iff_eq];omega
  clear hl;have D:aO b=true:=hS.b.book.trans ym.b;have P:=vN D;have h16:=kD D
  have zl:0<=b.now/\b.now<=10000:=by
   have:=(dQ.1 D).1
   rwa[oL,dte]at this
  have Z:∀x∈b.hl,(iS x.tl).size<=6000005/\(iS x.nl).size<=6000005/\x.n.size<=8:=λx hx=>by
   obtain⟨_,h1,h2,h3,h4,h5⟩:=P x hx;exact⟨lS h1 (pB h4),lS h2 (pB h5),h3⟩
  have ye:=aI (CR hS.b.c);have zx:=aI (EU D);obtain⟨c0,c1,c2,c3⟩:=hS.c;clear D
  go_enter func42,ntmps42
  go_wp2_with (go_at_call 45;refine(gQ _).mono ?_;rintro e w' ⟨⟨u,rfl⟩,zq⟩;rw[zq];clear zq)
  go_wp2_with fail
  refine(wO b.now w hS.e zl.1 om).mono ?_;rintro e w1 ⟨rfl,l⟩;have A:aG w (w1.alloc (.cells #[.string (dH b.now)] 9)):=aC l _;have zz:Hid ((w1.alloc (.cells #[.string (dH b.now)] 9)).ownsRow w.heap.size 9 1 (sl w1.heap.size 0 1 1) (0+1) ((dH b.now::(b.hl.take 0).map lE).map Value.string)):=⟨rfl,.inr ⟨w1.heap.size,1,_,rfl,l.size,wnq w1 _,nlq _,by unfold maxLen;omega,rfl,rfl⟩⟩;obtain⟨y0,y1,y2,y3⟩:=(hS.zL A).c;clear l c0 c1 c2 c3;go_wp2
  clear y0 y1 y2 y3
  go_loopw [5,25] (λov iv wr=>∃k:Nat,k<=ln b.hl/\iv=I k/\Hid (wr.ownsRow w.heap.size 9 1 ov (k+1) ((dH b.now::(b.hl.take k).map lE).map Value.string))/\aG w wr) (λ_ iv _=>ln b.hl-(intOf iv).toNat)
  case atStart=>exact⟨0,nz _,rfl,zz,A⟩
  case round=>
   obtain⟨k,hk,rfl,HO,hN⟩:=hrel;have z:=hS.zL hN
   by_cases f:k<ln b.hl
   ·have zk:(k:Int)<(ln b.hl:Int):=om
    have C:=z.b.inn
    rcases C.h with h|⟨g,off,ze,zg⟩
    ·rw[h]at f;simp at f
    rw[ze];obtain⟨q0,q1,q2⟩:=gN (zg k f);obtain⟨_,yj,yk,yl,l,A⟩:=P _ (lgm f);obtain⟨zn,zp,_⟩:=Z _ (lgm f);have m:=C.i _ (lgm f);have T:Hid ((dH b.now::(b.hl.take (k+1)).map lE)=(dH b.now::(b.hl.take k).map lE)++[lE b.hl[k]]):=by rw[Hid,tsa f,lmp];rfl
    obtain⟨x,hx⟩:=bQ (b.hl[k]);rw[←hx]at q0 q1 q2 yj yk yl l A zn zp m T;have y:=z.e;clear hx zg C z ze;obtain⟨s1,J⟩:∃s,s=x.n++(⟨#[58]⟩:Ba):=⟨_,rfl⟩;obtain⟨s2,K⟩:∃s,s=iS x.tl:=⟨_,rfl⟩;obtain⟨s3,L⟩:∃s,s=s1++s2:=⟨_,rfl⟩;obtain⟨s4,M⟩:∃s,s=s3++(⟨#[47]⟩:Ba):=⟨_,rfl⟩;obtain⟨s5,N⟩:∃s,s=iS x.nl:=⟨_,rfl⟩;obtain⟨s6,O⟩:∃s,s=s4++s5:=⟨_,rfl⟩;have yr:s1.size=x.n.size+1:=by rw[J,bsz];rfl
    have ys:s2.size<=6000005:=by rw[K];exact zn
    have yt:s3.size=s1.size+s2.size:=by rw[L,bsz]
    have yu:s4.size=s3.size+1:=by rw[M,bsz];rfl
    have yv:s5.size<=6000005:=by rw[N];exact zp
    have yw:s6.size=s4.size+s5.size:=by rw[O,bsz]
    have gs1:¬9223372036854775807<x.n.size+1:=om
    have gs3:¬9223372036854775807<s1.size+s2.size:=om
    have gs4:¬9223372036854775807<s3.size+1:=om
    have gs6:¬9223372036854775807<s4.size+s5.size:=om
    have HT:Hid ((dH b.now::(b.hl.take (k+1)).map lE)=(dH b.now::(b.hl.take k).map lE)++[s6]):=by rw[Hid,T.oQ,lE,←K,←N,←J,←L,←M,←O]
    have fs1:=J.symm;have zt:=aI K;have fs3:=L.symm;have fs4:=M.symm;have zu:=aI N;have fs6:=O.symm;clear T J yr K ys L yt M yu N yv O yw;have B:aG wr (wr.alloc (ho x)):=aC (br _ _) _;have k0:(wr.alloc (ho x)).cell? (ya wr 0)=some (.string x.n):=aB (wnq wr _) rfl;have k1:(wr.alloc (ho x)).cell? (ya wr 1)=some (ts x):=aB (wnq wr _) rfl;have k2:(wr.alloc (ho x)).cell? (ya wr 2)=some (ns x):=aB (wnq wr _) rfl;have za:=aI (aE hN B);have zb:=aI (dC HO.oQ B)
    replace m:=Hx.In.zL m B
    replace y:=y.zL B
    clear B HO
    go_upto_region 6 with fail
    obtain⟨W1,zd⟩:=cI (wr.alloc (ho x));rw[zd]at k0 k1 k2 za m zb y ⊢;clear zd q0 q1 q2;refine pG 14 [some 29,some 30,some 31,some 32,some 33,some 34,some 35,some 36,some 37,some 38,some 39,some 40,some 41,some 42] (ZE wr.heap.size x u5 s1 s2 s3 s4 s5 s6) ZE.zL ?step ?fin
    case step=>
     intro ii o vs w' yg zm t r;have z0z:=ctq t k0;have z1z:=ctq t k1;have z2z:=ctq t k2
     match ii,yg with
     |2,_|3,_|5,_|7,_|8,_|10,_|12,_=>
      cases zm
      simp[Region.binds,ZE]at r
      simp only[aD,Act.put,r];gi_wp2;exact⟨_,by simp[aH,r],rfl,br _ _⟩
     |0,_|1,_|4,_|9,_=>
      cases zm
      gi_wp2;exact⟨_,uhx,rfl,br _ _⟩
     |6,_=>
      cases zm
      simp[Region.binds,ZE]at r
      simp only[aD,Act.put,r];gi_wp2_with fail
      refine tqx ?_;refine(cw.2 (wR x.tl x.ta x.tc w' (y.zL t) (m.1.zL t) om (sZ l))).mono ?_;rintro e w5 ⟨rfl,W⟩;rw[←zt.out];gi_wp2;exact⟨_,by simp[aH,r],rfl,W⟩
     |11,_=>
      cases zm
      simp[Region.binds,ZE]at r
      simp only[aD,Act.put,r];gi_wp2_with fail
      refine tqx ?_;refine(cw.2 (wR x.nl x.na x.nc w' (y.zL t) (m.2.zL t) om (sZ A))).mono ?_;rintro e w5 ⟨rfl,W⟩;rw[←zu.out];gi_wp2;exact⟨_,by simp[aH,r],rfl,W⟩
     |13,_=>
      cases zm
      simp[Region.binds,ZE]at r
      simp only[aD,Act.put,r];gi_wp2;exact⟨_,by simp[aH,r],⟨_,rfl,wnq w' _⟩,aC (br _ _) _⟩
     |q+14,h=>omega
    case fin=>
     intro vs w8 t hp;have e0:vs 0=u5:=hp 0 dz;obtain⟨p,zc,R⟩:=hp 13 dz;have H:=aI (aE za.oQ t);have V:w8.ownsRow w.heap.size 9 1 u5 (k+1) ((dH b.now::(b.hl.take k).map lE).map Value.string):=dC zb.oQ t
     have G:∀j u,[Value.string s6][j]?=some u->w8.cell? (((Y p 0):Addr).add j)=some u:=λj u h=>by
      rw[aal,nza]
      match j,h with
      |0,h=>simp at h;subst h;exact aB R rfl
     clear hp t;simp only[lds,ldz,aD,Act.put,sit,lcs,lcz];rw[e0,zc];refine wpListIn_append_own w8 rfl (.tmp 29) (.tmp 42) 50 rfl w.heap.size 9 yq _ 1 16 underlying50 zi yn yo yp rfl dz u5 (k+1) _ rfl V (Y p 0) 1 1 [.string s6] rfl rfl G (λu hu=>by simp at hu;subst hu;rfl) (by unfold maxLen;omega) om H.oQ.size (λv1 wn Q zh _=>?_);have zw:Hid (aG w wn):=H.oQ.grown zh H.oQ.size (λq hq=>eH V hq)
     have yb:Hid (wn.ownsRow w.heap.size 9 1 v1 (k+1+1) ((dH b.now::(b.hl.take (k+1)).map lE).map Value.string)):=by
      rw[Hid,HT.oQ];have:=Q
      simpa using this
     clear Q zh G V H e0 zc R;generalize vs=vs;gi_wp2_with fail
     go_wp2
     go_roundw
     case rel=>exact⟨k+1,om,gn,yb,zw.oQ⟩
     case measure=>simp[intOf];omega
   ·have zk:¬(k:Int)<(ln b.hl:Int):=om
    have zj:b.hl.take k=b.hl:=ltl om;have hO:=HO.oQ;rw[zj]at hO;have d:ln (dH b.now::b.hl.map lE)=k+1:=by simp;omega
    rw[←d]at hO
    obtain⟨g,cp,rfl,zf⟩:∃g cp,u5=.slice (some (Y g 0)) (ln (dH b.now::b.hl.map lE)) cp/\(ln (dH b.now::b.hl.map lE))<=cp:=by
     obtain⟨_,⟨_,e⟩|⟨g,U,_,e,_,_,h,_⟩⟩:=hO
     ·simp at e
     ·exact⟨g,U,e,h⟩
    obtain⟨a5,c5,e5,zr⟩:=sY hO;have yf:g<wr.heap.size:=(hO.lt g rfl).2;have HJ:=aI (UU b);have yd:=aI z
    have yh:ln (Lib.join ((dH b.now::b.hl.map lE).map (·.data.toList)) [32])<=2000000000:=by
     have:=zx.oQ;rw[←HJ.oQ]at this
     simpa only[ByteArray.size,lsz]using this
    obtain⟨xs,zs⟩:=bQ (dH b.now::b.hl.map lE);rw[←zs]at zr zf d HJ yh e5 ⊢
    cases e5
    have hxl:ln xs<=17:=om
    clear hO HO zs zj z d;go_wp2_with fail
    refine(Tryz.strings_Join g 0 cp xs ⟨#[32]⟩ wr (λj x hj=>iC zr j x hj) yf om zf (by show(ln (Lib.join (xs.map (·.data.toList)) [32]))<=_;omega)).mono ?_;rintro e w9 ⟨rfl,X⟩;have yc:=aI (yd.oQ.zL X);have zv:=aI (aE hN X);have zy:=aI (HJ.oQ.trans ye.oQ);clear X;go_wp2
    go_ret;exact .inr ⟨⟨F,b,v,by rw[HR.oQ];exact yc.oQ,λk hk=>.inl hk⟩,by rw[HR.oQ,←zy.oQ];rfl,aU.below zv.oQ⟩
 ·have HR:Hid (yK s a=(s,dR)):=TS hl
  have yi:((ln a:Int)==0)=false:=by rw[bfn];omega
  clear hl
  go_enter func42,ntmps42
  go_wp2_with (go_at_call 45;refine(jU _).mono ?_;rintro e w' ⟨rfl,rfl⟩)
  exact⟨rfl,.inl ⟨HR.oQ,rfl,br _ _⟩⟩
variable {s b:Bk}{g a v W D:Nat}{k c f C:Va}{y:Bx}{B:St}
theorem eI.mono2 (h:eI S w s b)(g:∀k,S' k->k<w.heap.size->S k):eI S' w s b:=⟨h.c,λw' a=>h.i w' ⟨a.os,a.tape,a.output,a.size,λk d f=>a.block k d (λe=>f (g k e d))⟩,h.f1,h.f2⟩
def NF (S:Nat)(tv vn:Value)(g oo:Nat)(y:Bx)(j:Nat)(vs:Nat->Value)(w:World):Prop:=
 match j with
 |0=>vs 0=(E S 0)
 |1=>vs 1=(E S 0)
 |2=>vs 2=(E S 0)
 |3=>vs 3=(E S 3)
 |4=>vs 4=tv
 |5=>vs 5=vn
 |6=>vs 6=(E g oo)
 |7=>vs 7=I y.x
 |8=>vs 8=vn
 |9=>vs 9=(E g (oo+1))
 |10=>vs 10=I y.y
 |11=>vs 11=vn
 |12=>vs 12=(E g (oo+2))
 |13=>vs 13=I y.lo
 |14=>vs 14=vn
 |15=>vs 15=(E g (oo+3))
 |16=>vs 16=I y.hi
 |17=>vs 17=vn
 |18=>vs 18=(E g (oo+4))
 |19=>vs 19=I y.i
 |20=>vs 20=vn
 |21=>vs 21=(E g (oo+5))
 |22=>vs 22=I y.o
 |23=>vs 23=.agg #[I y.x,I y.y,I y.lo,I y.hi,I y.i,I y.o]
 |24=>∃p,vs 24=.slice (some (Y p 0)) 1 1/\w.heap[p]?=some (.cells #[I y.x,I y.y,I y.lo,I y.hi,I y.i,I y.o] 91)
 |_=>True
theorem NF.zL (j:Nat)(d:Nat->Va)(w w':Wd)(h:NF n k c g a y j d w)(i:aG w w'):NF n k c g a y j d w':=by
 unfold NF at*;split at h
 all_goals first
  |exact h
  |(obtain⟨p,e,f⟩:=h;exact⟨p,e,bJ f i⟩)
def dpIB (j:Nat):List Nat:=[j]
def XV (j:Nat):Bool:=j==0
theorem NF.loc (j:Nat)(b a:Nat->Va)(w:Wd)(i:∀q∈dpIB j,b q=a q)(h:NF n k f g v y j b w):NF n k f g v y j a w:=by
 have e:b j=a j:=i j (by simp[dpIB]);unfold NF at*;split at h
 all_goals first
  |(rw[←e];exact h)
  |trivial
def PfIB (S:Nat)(_:Nat)(v:Value):Prop:=v=(E S 0)
theorem NF.free (j:Nat)(b:Nat->Va)(w:Wd)(a:XV j=true)(h:NF n k f g v y j b w):PfIB n j (b j):=by
 simp[XV]at a;subst a;exact h
structure GIB (W:World)(S:Nat)(hv:Value)(y:Bx)(t:List Bx)(k:Nat)(vs:Nat->Value)(w':World):Prop where
 a:k=25->aG W w'/\vs 4=hv/\∃p,vs 24=.slice (some ⟨p,0,none⟩) 1 1/\w'.heap[p]?=some (.cells #[.int .i64 y.x,.int .i64 y.y,.int .i64 y.lo,.int .i64 y.hi,.int .i64 y.i,.int .i64 y.o] 91)
 b:26<=k->∃w0,aG W w0/\w0.grownBy w' hv.ownBlock/\w'.ownsRow 8 91 6 (vs 25) (t.length+1) (fG t++aR y)/\((vs 25).ownBlock=hv.ownBlock∨(vs 25).ownBlock=some w0.heap.size)
 c:27<=k->vs 26=.pointer (some ⟨S,0,none⟩)
 d:28<=k->vs 27=.pointer (some ⟨S,3,none⟩)
theorem lH.add (h:lH S' W w B b C) (y:Bx) (f:w.grownBy w' C.ownBlock) (r:w'.ownsRow 8 91 6 (.slice ta (ln B.t+1) D) (ln B.t+1) (fG B.t++aR y)) (ha:(Value.slice ta (ln B.t+1) D).ownBlock=C.ownBlock∨(Value.slice ta (ln B.t+1) D).ownBlock=some w.heap.size):
 lH (λk=>S' k∨(w.heap.size<=k/\k<w'.heap.size)) W (w'.setCell (Y W 3) (.slice ta (ln B.t+1) D)) ⟨B.b,B.t++[y]⟩ b (.slice ta (ln B.t+1) D)/\aU S' w (w'.setCell (Y W 3) (.slice ta (ln B.t+1) D)):=by
 have l:=(h.fl W h.fS).1;have i:aU (λk=>C.ownBlock=some k) w w':=⟨f.os,f.tape,f.output,f.size,λk a A=>f.block k a (λe=>A e.symm)⟩;have u:w'.heap[W]?=some (.cells #[I b.now,fs b,hs b,C] 55):=bF h.o i h.ne;have j:aU (λk=>k=W) w' (w'.setCell (Y W 3) (.slice ta (ln B.t+1) D)):=(aU.refl (λk=>k=W) w').set (g:=W) rfl _ _;have d:aU (λk=>k=W∨C.ownBlock=some k) w (w'.setCell (Y W 3) (.slice ta (ln B.t+1) D)):=(i.wide (λ_ e=>.inr e)).trans (j.wide (λ_ e=>.inl e));have q:(w'.setCell (Y W 3) (.slice ta (ln B.t+1) D)).heap.size=w'.heap.size:=by simp[World.setCell]
 have p:=r.lt;refine⟨⟨aP u 3 _,?_,(h.b.but (d.wide (λk a=>a.elim .inl (λe=>.inr (.inl e))))).mono2 (λk a hw=>?_),.inl h.fS,λk a=>?_,λk a=>?_,(h.e.but d (λk e=>?_))⟩,d.wide (λk e=>e.elim (λe=>by rw[e];exact h.fS) (h.fh k))⟩
 ·have z:ln (B.t++[y])=ln B.t+1:=by simp
  show World.ownsRow _ 8 _ 6 _ (ln (B.t++[y])) (fG (B.t++[y]));rw[z,jV]
  exact jI r (λk cs _ m=>j.block k (iB m) (λe=>by
   have x:k=W:=e;rw[x,u]at m;simp at m))
 ·rcases a with a|a|a;·exact .inl a
  ·rcases ha with ha|ha;·exact .inr (.inl (ha▸a))
   ·rw[ha]at a;have:w.heap.size=k:=by simpa using a
    exact .inr (.inr (λn=>by have:=(h.fl k n).2;omega))
  ·exact .inr (.inr (λn=>a (.inl n)))
 ·rcases ha with ha|ha;·exact .inl (h.fh k (ha▸a))
  ·have:=(p k a).2;rw[ha]at a;have:w.heap.size=k:=by simpa using a
   exact .inr ⟨om,om⟩
 ·rw[q];rcases a with a|a;·exact⟨(h.fl k a).1,nll (h.fl k a).2 f.size⟩
  ·exact⟨by have:=(h.fl W h.fS).2;omega,a.2⟩
 ·rcases e with e|e;·rw[e];exact l
  ·exact(h.fl k (h.fh k e)).1
theorem XA (F:Nat->Prop)(S:Nat)(w:World)(s:St)(b:Bk)(v:Value)(hS:lH F S w s b v)(kk:Nat)(zu:jF kk s)(hkk:kk<=1000)(a:List ByteArray)(ao:Option Addr)(Q:Nat)(hX:Xs 1 eE w ao a):
 aW 36 #[E S 0,.slice ao a.length Q] w λe w'=>XT F S w s (vB s a) e w':=by
 obtain⟨ib,zt,zq,zr,zs⟩:=info_parts Tryz.info91;have ht1:s.t.length<=1000:=by have:=zu.t;omega
 by_cases hl:a.length=6
 ·have HL:=aI hl;have zg:((a.length:Int)==6)=true:=by rw[beq_iff_eq];omega
  clear hl;go_enter func36,ntmps36;go_wp2_with (go_at_call 45;refine(gQ _).mono ?_;rintro e w' ⟨⟨u,rfl⟩,zi⟩;rw[zi];clear zi);go_wp2_with fail;refine(kE a ao Q w hX (by have:=HL.oQ;omega)).mono ?_;rintro e B ⟨⟨M,v2,rfl,zh⟩|⟨L,rfl⟩,n⟩
  ·obtain⟨x0,x1,x2,x3,x4,x5,rfl⟩:=ws6 HL.oQ;obtain⟨a6,c6,rfl,zw⟩:=pW (eN _).symm zh;rcases zw with h|⟨g,C,rfl,z⟩;·simp[aS]at h
   have za:Hid (vB s [x0,x1,x2,x3,x4,x5]=(⟨s.b,s.t++[⟨aV x0,aV x1,aV x2,aV x3,aV x4,aV x5⟩]⟩,VW)):=by
    rw[Hid,vB,if_pos (pY M)]
   have j0:B.cell? (Y g C)=some (I (aV x0)):=by have:=z 0 (by simp[aS]) 0 _ rfl;simpa[aS]using this
   have j1:B.cell? (Y g (C+1))=some (I (aV x1)):=by have:=z 1 (by simp[aS]) 0 _ rfl;simpa[aS]using this
   have j2:B.cell? (Y g (C+2))=some (I (aV x2)):=by have:=z 2 (by simp[aS]) 0 _ rfl;simpa[aS]using this
   have j3:B.cell? (Y g (C+3))=some (I (aV x3)):=by have:=z 3 (by simp[aS]) 0 _ rfl;simpa[aS]using this
   have j4:B.cell? (Y g (C+4))=some (I (aV x4)):=by have:=z 4 (by simp[aS]) 0 _ rfl;simpa[aS]using this
   have j5:B.cell? (Y g (C+5))=some (I (aV x5)):=by have:=z 5 (by simp[aS]) 0 _ rfl;simpa[aS]using this
   have e5:(aS [x0,x1,x2,x3,x4,x5]).length=6:=rfl;rw[e5];obtain⟨y,O⟩:=bQ (⟨aV x0,aV x1,aV x2,aV x3,aV x4,aV x5⟩:Bx);have Z:Hid (vB s [x0,x1,x2,x3,x4,x5]=(⟨s.b,s.t++[y]⟩,VW)):=by rw[O];exact za.oQ
   replace j0:B.cell? (Y g C)=some (I y.x):=by rw[O];exact j0
   replace j1:B.cell? (Y g (C+1))=some (I y.y):=by rw[O];exact j1
   replace j2:B.cell? (Y g (C+2))=some (I y.lo):=by rw[O];exact j2
   replace j3:B.cell? (Y g (C+3))=some (I y.hi):=by rw[O];exact j3
   replace j4:B.cell? (Y g (C+4))=some (I y.i):=by rw[O];exact j4
   replace j5:B.cell? (Y g (C+5))=some (I y.o):=by rw[O];exact j5
   have J:=aI (n);replace hS:=hS.zL n;clear O za e5 z M HL hX zh n zg;go_upto_region 3 with fail;refine ZC 6 25 28 [some 12,some 13,some 14,some 15,some 16,some 17,some 18,some 19,some 20,some 21,some 22,some 23,some 24,some 25,some 26,some 27,some 28,some 29,some 30,some 31,some 32,some 33,some 34,some 35,some 36,some 37,some 38,some 39] XV dpIB (NF S v (.slice (some (Y g C)) 6 c6) g C y) (PfIB S) (GIB B S v y s.t) NF.zL NF.loc NF.free ?step ?free ?g0 ?gf ?store ?fin
   case step=>
    intro ii o A w' zf r l G;obtain⟨z0z,z1z,z2z,z3z⟩:=(hS.zL l).c;have y0y:=(l.cell (aA j0)).trans j0;have y1y:=(l.cell (aA j1)).trans j1;have y2y:=(l.cell (aA j2)).trans j2;have y3y:=(l.cell (aA j3)).trans j3;have y4y:=(l.cell (aA j4)).trans j4;have y5y:=(l.cell (aA j5)).trans j5;match ii,zf with
    |2,_|3,_|4,_|6,_|7,_|9,_|10,_|12,_|13,_|15,_|16,_|18,_|19,_|21,_|22,_|23,_=>
     simp at r;subst r;simp[Region.binds,NF]at G;simp only[aD,Act.put,G];gi_wp2;exact⟨_,by simp[aH,G],rfl,br _ _⟩
    |0,_|1,_|5,_|8,_|11,_|14,_|17,_|20,_=>
     simp at r;subst r;simp only[aD,Act.put];gi_wp2;exact⟨_,by simp[aH],rfl,br _ _⟩
    |24,_=>
     simp at r;subst r;simp[Region.binds,NF]at G;simp only[aD,Act.put,G];gi_wp2;exact⟨_,by simp[aH,G],⟨_,rfl,wnq w' _⟩,aC (br _ _) _⟩
    |q+25,h=>omega
   case free=>
    intro i o A w' t zf V r ht htM m G;have W:i=0:=by simpa[XV]using V
    subst W;clear m G;simp at r;subst r;simp only[aD,Act.put];gi_wp2;exact⟨(E S 0),by simp[aH],rfl,trivial⟩
   case g0=>
    intro A w' l X;exact⟨λ_=>⟨l,X 4 dz rfl,X 24 dz rfl⟩,λh=>absurd h dz,λh=>absurd h dz,λh=>absurd h dz⟩
   case gf=>
    intro t A w' i v V m;have W:i=0:=by simpa[XV]using V
    subst W;exact⟨m.a,m.b,m.c,m.d⟩
   case store=>
    intro t o A w' h12 h15 r m G;have ht:t=25∨t=26∨t=27:=om;rcases ht with rfl|rfl|rfl
    ·simp at r;subst r;obtain⟨l,d4,p,zb,X⟩:=m.a rfl;have U:=(hS.zL l).h;have h8:8<=w'.heap.size:=(hS.zL l).e.s;have zj:=aI l
     have H:∀j u,(aR y)[j]?=some u->w'.cell? (((Y p 0):Addr).add j)=some u:=λj u h=>by
      rw[aal,nza];match j,h with
      |0,h|1,h|2,h|3,h|4,h|5,h=>simp[aR]at h;subst h;exact aB X rfl
     clear m G;simp only[aD,Act.put,sit,lcs,lcz];rw[d4,zb];refine wpListIn_append_own_at w' rfl (.tmp 16) (.tmp 36) 41 rfl 8 91 ib _ 6 48 underlying41 zt zq zr zs rfl dz v s.t.length (fG s.t) rfl U (Y p 0) 1 1 (aR y) rfl rfl H (m9 y) (by unfold maxLen;omega) om h8 (λv1 w1 N f _ D=>?_);have zl:=aI f;have zm:=aI N;have zn:=aI D;clear N f H U X l D;gi_wp2;exact⟨v1,by simp[aH,d4,zb,Act.put],λh=>absurd h dz,λ_=>⟨w',zj.oQ,zl.oQ,zm.oQ,zn.oQ⟩,λh=>absurd h dz,λh=>absurd h dz⟩
    ·simp at r;subst r;have d0:A 0=(E S 0):=G (eD 0) sm rfl dz rfl;have P:Hid (∃w0,aG B w0/\w0.grownBy w' v.ownBlock/\w'.ownsRow 8 91 6 (A 25) (s.t.length+1) (fG s.t++aR y)/\((A 25).ownBlock=v.ownBlock∨(A 25).ownBlock=some w0.heap.size)):=m.b dz;clear m G;simp only[aD,Act.put,d0];gi_wp2;exact⟨_,by simp[aH,d0],λh=>absurd h dz,λ_=>P.oQ,λ_=>rfl,λh=>absurd h dz⟩
    ·simp at r;subst r;have R:=m.c dz;have P:Hid (∃w0,aG B w0/\w0.grownBy w' v.ownBlock/\w'.ownsRow 8 91 6 (A 25) (s.t.length+1) (fG s.t++aR y)/\((A 25).ownBlock=v.ownBlock∨(A 25).ownBlock=some w0.heap.size)):=m.b dz;clear m G;simp only[aD,Act.put,R];gi_wp2;exact⟨_,by simp[aH,R],λh=>absurd h dz,λ_=>P.oQ,λ_=>R,λ_=>rfl⟩
   case fin=>
    intro A w' m X;have zc:=m.d dz;obtain⟨w0,l,f,U,D⟩:=m.b dz
    obtain⟨ta',tc',T⟩:∃a c,A 25=.slice a (s.t.length+1) c:=by
     obtain⟨_,⟨_,e⟩|⟨g,Q,_,e,_⟩⟩:=U;·omega
     ·exact⟨_,_,e⟩
    rw[T]at U D;have K:=hS.zL l;obtain⟨ze,zd⟩:=K.add y f U D;have zp:=aI ze;have zk:=aI ((aU.below (aE J.oQ l)).trans zd);have zv:w.heap.size<=w0.heap.size:=nlt J.oQ.size l.size;have o1:w'.heap[S]?=some (.cells #[I b.now,.slice b.fa b.fl.length b.fc,.slice b.ha b.hl.length b.hc,v] 55):=bF K.o (S:=λk=>v.ownBlock=some k) ⟨f.os,f.tape,f.output,f.size,λk hk hn=>f.block k hk (λe=>hn e.symm)⟩ K.ne;have y3:w'.cell? (Y S 3)=some v:=aB o1 rfl;have yf:=jS o1;clear X m l U K f D o1 ze zd;simp only[lds,ldz,aD,Act.put];rw[zc,T];clear zc T;generalize A=A;gi_wp2_with fail;go_wp2;go_ret;exact .inr ⟨⟨λk=>F k∨(w0.heap.size<=k/\k<w'.heap.size),b,_,by rw[Z.oQ];exact zp.oQ,λk hk=>hk.elim .inl (λh=>.inr (nlt zv h.1))⟩,by rw[Z.oQ];rfl,zk.oQ⟩
  ·have Z:Hid (vB s a=(s,dR)):=CJ (λh=>by rw[sA L]at h;exact absurd h.2 dz);have J:=aI (n);clear L n;go_wp2;exact⟨rfl,.inl ⟨Z.oQ,rfl,J.oQ⟩⟩
 ·have Z:Hid (vB s a=(s,dR)):=CJ (λh=>hl h.1);have zg:((a.length:Int)==6)=false:=by rw[bfn];omega
  clear hl;go_enter func36,ntmps36;go_wp2_with (go_at_call 45;refine(jU _).mono ?_;rintro e w' ⟨rfl,rfl⟩);exact⟨rfl,.inl ⟨Z.oQ,rfl,br _ _⟩⟩
variable {n:Ba}{f:Nat}
theorem E6 (h:zJ n=some f):(n.toList=pV/\f=34)∨(n.toList=vU/\f=35)∨(n.toList=JD/\f=36)∨(n.toList=pJ/\f=37)∨(n.toList=uZ/\f=38)∨(n.toList=GH/\f=39)∨(n.toList=wB/\f=40)∨(n.toList=wT/\f=41)∨(n.toList=vI/\f=42):=by
 unfold zJ at h;by_cases a:n.toList=pV;·rw[if_pos a]at h;cases h;simp[a]
 rw[if_neg a]at h;by_cases b:n.toList=vU;·rw[if_pos b]at h;cases h;simp[b]
 rw[if_neg b]at h;by_cases c:n.toList=JD;·rw[if_pos c]at h;cases h;simp[c]
 rw[if_neg c]at h;by_cases d:n.toList=pJ;·rw[if_pos d]at h;cases h;simp[d]
 rw[if_neg d]at h;by_cases e:n.toList=uZ;·rw[if_pos e]at h;cases h;simp[e]
 rw[if_neg e]at h;by_cases g:n.toList=GH;·rw[if_pos g]at h;cases h;simp[g]
 rw[if_neg g]at h;by_cases i:n.toList=wB;·rw[if_pos i]at h;cases h;simp[i]
 rw[if_neg i]at h;by_cases j:n.toList=wT;·rw[if_pos j]at h;cases h;simp[j]
 rw[if_neg j]at h;by_cases k:n.toList=vI;·rw[if_pos k]at h;cases h;simp[k]
 rw[if_neg k]at h;cases h
theorem k9 {b:Func}{c:Code}(g:prog.funcs[f]?=some b)(a:(b.name== "runtime.NumGoroutine")=false)(e:b.body=some c)(args:Array Va)(w:Wd):(callFunc f args).run prog w=.ok (.enter f args) w:=by
 have d:b.name≠ "runtime.NumGoroutine":=by simpa using a
 simp[callFunc,g,d,e]
theorem VK (h:zJ n=some f)(args:Array Va)(w:Wd):(callFunc f args).run prog w=.ok (.enter f args) w:=by
 rcases E6 h with⟨_,rfl⟩|⟨_,rfl⟩|⟨_,rfl⟩|⟨_,rfl⟩|⟨_,rfl⟩|⟨_,rfl⟩|⟨_,rfl⟩|⟨_,rfl⟩|⟨_,rfl⟩;·exact k9 func34 kr rfl args w
 ·exact k9 func35 kr rfl args w
 ·exact k9 func36 kr rfl args w
 ·exact k9 func37 kr rfl args w
 ·exact k9 func38 kr rfl args w
 ·exact k9 func39 kr rfl args w
 ·exact k9 func40 kr rfl args w
 ·exact k9 func41 kr rfl args w
 ·exact k9 func42 kr rfl args w
theorem SX (h:zJ n=none)(s:St)(a:List Ba):aX s (n::a)=(s,dR):=by
 unfold zJ at h;by_cases b:n.toList=pV;·rw[if_pos b]at h;cases h
 rw[if_neg b]at h;by_cases c:n.toList=vU;·rw[if_pos c]at h;cases h
 rw[if_neg c]at h;by_cases d:n.toList=JD;·rw[if_pos d]at h;cases h
 rw[if_neg d]at h;by_cases e:n.toList=pJ;·rw[if_pos e]at h;cases h
 rw[if_neg e]at h;by_cases f:n.toList=uZ;·rw[if_pos f]at h;cases h
 rw[if_neg f]at h;by_cases g:n.toList=GH;·rw[if_pos g]at h;cases h
 rw[if_neg g]at h;by_cases i:n.toList=wB;·rw[if_pos i]at h;cases h
 rw[if_neg i]at h;by_cases j:n.toList=wT;·rw[if_pos j]at h;cases h
 rw[if_neg j]at h;by_cases k:n.toList=vI;·rw[if_pos k]at h;cases h
 rw[if_neg k]at h;simp only[aX,b,c,d,e,f,g,i,j,k,if_false]
theorem RJ (F:Nat->Prop)(S:Nat)(w:Wd)(s:St)(b:Bk)(v:Va)(j:lH F S w s b v)(i:Nat)(d:jF i s)(m:i<=1000)(n:Ba)(f:Nat)(q:zJ n=some f)(a:List Ba)(g:Oa)(c:Nat)(k:Xs 1 eE w g a)(l:ln a<=c)(o:ln a<=1048570)(p:∀x∈a,x.size<=1048575):
 aW f #[E S 0,.slice g (ln a) c] w λe w'=>XT F S w s (aX s (n::a)) e w':=by
 rcases E6 q with⟨h,rfl⟩|⟨h,rfl⟩|⟨h,rfl⟩|⟨h,rfl⟩|⟨h,rfl⟩|⟨h,rfl⟩|⟨h,rfl⟩|⟨h,rfl⟩|⟨h,rfl⟩
 ·rw[show aX s (n::a)=gH s a by simp[aX,h]];exact PU F S w s b v j i d a g c k l p
 ·rw[show aX s (n::a)=k8 s a by simp[aX,h]];exact UY F S w s b v j i d a g c k l o p
 ·rw[show aX s (n::a)=vB s a by simp[aX,h]];exact XA F S w s b v j i d m a g c k
 ·rw[show aX s (n::a)=rW s a by simp[aX,h]];exact NP F S w s b v j i d a g c k m
 ·rw[show aX s (n::a)=n9 true s a by simp[aX,h]];exact TO F S w s b v j i d a g c k
 ·rw[show aX s (n::a)=n9 false s a by simp[aX,h]];exact GP F S w s b v j i d a g c k
 ·rw[show aX s (n::a)=mZ s a by simp[aX,h]];exact U9 F S w s b v j i d a g c k
 ·rw[show aX s (n::a)=oC s a by simp[aX,h]];exact R6 F S w s b v j i d m a g c k
 ·rw[show aX s (n::a)=yK s a by simp[aX,h]];exact UR F S w s b v j i d a g c
theorem ES (p:Addr)(x:Ba)(w:Wd)(a:w.cell? p=some (.string x))(c:w.frozen? p=false):
 CallsD prog 44 #[.pointer (some p)] (.panicking [{ v:=.iface 95 (.agg #[]),recovered:=false}]) w λe d w'=>
  e=rt (.tuple #[])/\d=.panicking [{ v:=.iface 95 (.agg #[]),recovered:=true}]/\w'=(w.alloc (.cells #[] 95)).setCell p (.string dR):=by
 have hta:∀w:Wd,(Instr.typeAssert (.iface 95 (.agg #[])) 20 95 true).run prog w=.ok (.tuple #[.agg #[],.bool true]) w:=λ_=>by kernel_rfl
 have hcw:(w.alloc (.cells #[] 95)).cell? p=some (.string x):=((aC (br _ w) _).cell (aA a)).trans a;have hzw:(w.alloc (.cells #[] 95)).frozen? p=false:=((aC (br _ w) _).frozen (aA a)).trans c;refine callsD_of_wpS func44 rfl λc₀ cs b=>?_;apply wpS_seq;apply wpS_region;simp[wpOpsS,go_sem,recoverD,b,ntmps44,Exit.thenS];refine wpS_of_wp ?_;go_wp2;exact⟨rfl,_,rfl,_,results_none rfl _ _ _,rfl,rfl,rfl⟩
theorem PS (p:Addr)(w:Wd):
 CallsD prog 44 #[.pointer (some p)] .returning w λe c w'=>e=rt (.tuple #[])/\c=.returning/\w'=w:=by
 refine callsD_of_wpS func44 rfl λa cs b=>?_;apply wpS_seq;apply wpS_region;simp[wpOpsS,go_sem,recoverD,b,ntmps44,Exit.thenS];refine wpS_of_wp ?_;go_wp2;refine⟨rfl,.returning,?_,_,results_none rfl _ _ _,rfl,rfl,rfl⟩;cases a;simp_all
theorem PI (F:Nat->Prop)(S:Nat)(w:Wd)(s:St)(b:Bk)(v:Va)(hS:lH F S w s b v)(kk:Nat)(zg:jF kk s)(zf:kk<=1000)(i:Ba)(hline:i.size<=1048000)(r c:Nat)(hr:w.heap[r]?=some (.map (EP S) c)):
 aW 20 #[.string i,.map (some r)] w λe w'=>ImR F S w (aX s (bG 32 i)) e w':=by
 have o:aG w (w.alloc (.cells #[.string ⟨#[]⟩] 9)):=aC (br _ _) _;have z:Hid ((w.alloc (.cells #[.string ⟨#[]⟩] 9)).heap[w.heap.size]?=some (.cells #[.string ⟨#[]⟩] 9)):=wnq w _;have P:w.heap.size<(w.alloc (.cells #[.string ⟨#[]⟩] 9)).heap.size:=by simp
 obtain⟨R,hR⟩:=cI w.heap.size;have zc:=aI hR;have Z:Hid (∀q,F q->q<R):=λq hq=>by rw[←hR];exact(hS.fl q hq).2
 have zb:Hid (8<=R):=by rw[Hid,←hR];exact hS.e.s
 have K:=kU 32 i;go_enter_defers func20,ntmps20;go_wp2_with fail;rw[hR]at z P;obtain⟨W1,zd⟩:=cI (w.alloc (.cells #[.string ⟨#[]⟩] 9));rw[zd]at o z P ⊢;have zj:=aI o;have Q:=hS.zL o;have zh:=bJ hr o;clear o hS hr zd hR;refine(IL i 32 W1 Q.e om).mono ?_;rintro e w1 ⟨⟨rfl,hX⟩,m⟩;rw[show(((32:UInt8).toNat:Nat):Int)=32 from rfl]at hX ⊢;have V:∀x∈bG 32 i,x.size<=1048575:=λx hx=>by have:=pA hx;omega
 have W:=zX 32 i;obtain⟨L,hL⟩:=bQ (bG 32 i);rw[←hL]at hX V W K ⊢;obtain⟨n,a,rfl⟩:=List.exists_cons_of_ne_nil W;have HL:=aI hL.symm;have ze:=jN hX 1 [n] a [] sm rfl;have c0:=iC hX 0 n rfl;rw[nza]at c0 ze;have l:=aAL S r c n w1 (bJ zh m);have za:=aI (bJ z.oQ m);have M:=aI (aE zj.oQ m);have zk:=aI (nll P m.size);have B:=Q.zL m;rw[llc]at K ⊢
 have C:Hid (aX s (n::a)=(s,dR)->∀j,aG w1 j->ImR F S w (aX s (n::a)) (rt (.string dR)) ((j.alloc (.cells #[] 95)).setCell (Y R 0) (.string dR))):=λhz j d=>by
  have hB:aG w ((j.alloc (.cells #[] 95)).setCell (Y R 0) (.string dR)):=(aC (aE M.oQ d) _).setCell (p:=(Y R 0)) (by show w.heap.size<=R;rw[zc.oQ];exact nlq _) _;rw[hz]
  have zl:lH F S ((j.alloc (.cells #[] 95)).setCell (Y R 0) (.string dR)) s b v:=by
   refine(B.zL (aC d (.cells #[] 95))).out ?_ ?_;·exact(aU.refl _ _).set (g:=R) (λJ=>by have:=Z.oQ R J;omega) _ _
   ·exact(B.e.zL (aC d (.cells #[] 95))).but ((aU.refl (λk=>k=R) _).set (g:=R) rfl 0 (.string dR)) (λk e=>by rw[e];exact zb.oQ)
  exact⟨⟨F,b,v,zl,λk hk=>.inl hk⟩,rfl,aU.below hB⟩
 have D:Hid (∀j,aG w1 j->j.cell? (Y R 0)=some (.string ⟨#[]⟩)/\j.frozen? (Y R 0)=false/\((j.alloc (.cells #[] 95)).setCell (Y R 0) (.string dR)).cell? (Y R 0)=some (.string dR)):=λj d=>by
  have h2:=bJ za.oQ d;have h3:=bJ h2 (aC (br _ j) (.cells #[] 95));exact⟨aB h2 rfl,by simp[World.frozen?,h2],aB (aP h3 0 (.string dR)) rfl⟩
 clear hL hX W m Q zh z;cases J:zJ n with
 |none=>
  have HZ:=aI (SX J s a);rw[J]at l;simp only[Option.map_none,Option.getD_none,Option.isSome_none]at l;obtain⟨q1,q2,q3⟩:=D.oQ w1 (br _ _);have y:=C.oQ HZ.oQ w1 (br _ _);have y:Hid _:=y;go_wp2_with (go_at_call 45;refine(jU _).mono ?_;rintro e w' ⟨rfl,rfl⟩);refine leaves_cons (f:=44) (args:=#[E R 0]) sm (by simp[go_sem]) ?_;refine(ES (Y R 0) ⟨#[]⟩ _ q1 q2).mono ?_;rintro e u' zi ⟨rfl,rfl,rfl⟩;simp[Leaves,settle,results,results20,go_sem,q3];rw[HL.oQ];exact y.oQ
 |some f=>
  have hent:=VK J;rw[J]at l;simp only[Option.map_some,Option.getD_some,Option.isSome_some]at l;have X:Hid (∀x∈a,x.size<=1048575):=λx hx=>V x (List.mem_cons_of_mem _ hx);have G:Hid (ln a<=1048570):=by rw[Hid];omega
  have HF:=aI J;clear J V;rcases Nat.eq_zero_or_pos (ln a)with h1|h1
  case' inl=>
   have h0:=aI (enl h1);go_wp2_with (go_at_call 45;refine(gQ _).mono ?_;rintro e w' ⟨⟨u,rfl⟩,t⟩;rw[t];clear t);go_wp2_with fail;have hC:=RJ F S w1 s b v B kk zg zf n f HF.oQ a (some (ya W1 0)) 0 (.inl h0.out) om G.oQ X.oQ;rw[h1]at hC;refine hC.mono ?_
  case' inr=>
   have h2:¬(ln a)=0:=om;have h3:¬a=[]:=λe=>h2 (by rw[e];rfl);go_wp2_with (go_at_call 45;refine(gQ _).mono ?_;rintro e w' ⟨⟨u,rfl⟩,t⟩;rw[t];clear t);go_wp2_with fail;refine(RJ F S w1 s b v B kk zg zf n f HF.oQ a _ (ln a) ze (nlq _) G.oQ X.oQ).mono ?_
  all_goals
   rintro e j (⟨hz,rfl,d⟩|⟨⟨F',b',v',T,N⟩,rfl,d⟩)
   ·obtain⟨q1,q2,q3⟩:=D.oQ j d;have y:=C.oQ hz j d;have y:Hid _:=y;clear hz d;go_wp2;refine leaves_cons (f:=44) (args:=#[E R 0]) sm (by simp[go_sem]) ?_;refine(ES (Y R 0) ⟨#[]⟩ _ q1 q2).mono ?_;rintro e u' zi ⟨rfl,rfl,rfl⟩;simp[Leaves,settle,results,results20,go_sem,q3];rw[HL.oQ];exact y.oQ
   ·have O:¬F R:=λh=>by have:=Z.oQ R h;omega
    have H:¬F' R:=λh=>(N R h).elim O (λh=>by have:=zk.oQ;omega);have A:=bF za.oQ d O;have q1:j.cell? (Y R 0)=some (.string ⟨#[]⟩):=aB A rfl;have q2:=jS A;have q3:∀x,(j.setCell (Y R 0) (.string x)).cell? (Y R 0)=some (.string x):=λx=>aB (aP A 0 (.string x)) rfl
    have y:Hid (∀x,x=(aX s (n::a)).2->ImR F S w (aX s (n::a)) (rt (.string x)) (j.setCell (Y R 0) (.string x))):=λx hx=>by
     have U:aU (λk=>k=R) j (j.setCell (Y R 0) (.string x)):=(aU.refl (λk=>k=R) j).set (g:=R) rfl _ _;exact⟨⟨F',b',v',T.out (U.wide (λk e=>by rw[e];exact H)) (T.e.but U (λk e=>by rw[e];exact zb.oQ)),λk hk=>(N k hk).elim .inl (λh=>.inr (nlt M.oQ.size h))⟩,by rw[hx],((aU.below M.oQ).trans d).past U (λk e=>.inr (by rw[zc.oQ,e];exact nlq _))⟩
    obtain⟨x,hx⟩:=bQ ((aX s (n::a)).2);rw[←hx];have HX:Hid _:=y.oQ x hx;clear d T N O H A hx y;go_wp2;refine leaves_cons (f:=44) (args:=#[E R 0]) sm (by simp[go_sem]) ?_;refine(PS (Y R 0) _).mono ?_;rintro e u' zi ⟨rfl,rfl,rfl⟩;simp[Leaves,settle,results,results20,go_sem,q3];rw[HL.oQ];exact HX.oQ
theorem KN (a:Ba)(w:Wd)(F:zP w):
 aW 17 #[.string a] w λe w'=>((20000<a.size/\e=rt (.tuple #[ms,.bool false]))∨(¬20000<a.size/\∃s,e=rt (.tuple #[.slice (some (Y w.heap.size 0)) (ln (fP a)) s,.bool (decide (ln (fP a)<=300))])/\Xs 1 eE w' (some (Y w.heap.size 0)) (fP a)))/\aG w w':=by
 by_cases t:20000<a.size
 ·have u:decide ((20000:Int)<(a.size:Int))=true:=by rw[dte];omega
  go_enter func17,ntmps17;go_wp2;exact bpr (v:=.tuple #[ms,.bool false]) (by simp[results,results17,go_sem]) rfl ⟨.inl ⟨t,rfl⟩,br _ _⟩
 have u:decide ((20000:Int)<(a.size:Int))=false:=by rw[dfi];omega
 go_enter func17,ntmps17;go_wp2_with fail;refine(IL a 10 w F om).mono ?_;rintro e w1 ⟨⟨rfl,d⟩,p⟩;rw[show(((10:UInt8).toNat:Nat):Int)=10 from rfl]at d ⊢;have g:=zX 10 a;have f:=kU 10 a;have b:Hid (fP a=if((bG 10 a).getLastD ⟨#[]⟩).toList=[]then(bG 10 a).dropLast else bG 10 a):=rfl;obtain⟨L,A⟩:=bQ (bG 10 a);rw[←A]at d g f b ⊢;clear A;obtain⟨m,q⟩:∃m,ln L=m+1:=⟨ln L-1,by have:=lpi.2 g;omega⟩;rw[RE m q]at b;rw[q]
 have D:w1.cell? (ya w m)=some (.string (L[m]'om)):=by
  have:=iC d m (L[m]'om) (by rw[lge]);simpa using this
 have hmm:m<=1000000000:=om;have o:=aI p;obtain⟨z,C⟩:=bQ (L[m]'om);rw[←C]at D b;have n:=aI q;clear p C q;by_cases i:z.toList=[]
 ·have c:Hid (fP a=L.take m):=by
   rw[Hid,b.oQ,if_pos i,List.dropLast_eq_take];congr 1;have:=n.oQ;omega
  have j:Hid (ln (fP a)=m):=by rw[Hid,c.oQ,llt];have:=n.oQ;omega
  have k:Hid (Xs 1 eE w1 (some (ya w 0)) (fP a)):=by rw[Hid,c.oQ];exact d.take m
  have y:(z.toList==[])=true:=by rw[i];rfl
  clear g f b d n c;obtain⟨B,l⟩:=bQ (decide (m<=300));have x:decide ((m:Int)<=300)=B:=by rw[l];congr 1;exact propext ⟨λh=>by omega,λh=>by omega⟩
  have r:=aI l;clear l;go_wp2;exact bpr (v:=.tuple #[sl w.heap.size 0 m (m+1),.bool B]) (by simp[results,results17,go_sem]) rfl ⟨.inr ⟨t,m+1,by rw[j.oQ,r.oQ],k.oQ⟩,o.oQ⟩
 ·have c:Hid (fP a=L):=by rw[Hid,b.oQ,if_neg i]
  have j:Hid (ln (fP a)=m+1):=by rw[Hid,c.oQ];exact n.oQ
  have k:Hid (Xs 1 eE w1 (some (ya w 0)) (fP a)):=by rw[Hid,c.oQ];exact d
  have y:(z.toList==[])=false:=by rw[bfn];exact i
  clear g f b d n c;obtain⟨B,l⟩:=bQ (decide (m+1<=300));have x:decide ((m:Int)+1<=300)=B:=by rw[l];congr 1;exact propext ⟨λh=>by omega,λh=>by omega⟩
  have r:=aI l;clear l;go_wp2;exact bpr (v:=.tuple #[sl w.heap.size 0 (m+1) (m+1),.bool B]) (by simp[results,results17,go_sem]) rfl ⟨.inr ⟨t,m+1,by rw[j.oQ,r.oQ],k.oQ⟩,o.oQ⟩
variable {m:Nat → Prop}{wr w1 M B:Wd}{c k:Nat}{l L:List Ba}{v R u V j:Va}{P:Ba}{b':Bk}{Q:St}
theorem Xs.butS (h:Xs 1 eE w (some (Y c a)) l)(d:aU S w w')(m:¬S c):Xs 1 eE w' (some (Y c a)) l:=by
 rcases h with h|⟨b,o,e,f⟩;·exact .inl h
 ·cases e;exact .inr ⟨c,a,rfl,λk i j u g=>d.cell m (f k i j u g)⟩
theorem LO.but (h:LO T v o w)(a:aU S w w')(d:¬S T)(g:∀q,v.ownBlock=some q->¬S q):LO T v o w':=by
 obtain⟨p,f,e⟩:=h.c;refine⟨⟨p,f,bF e a d⟩,xZ h.r (λk b=>a.block k (h.r.lt k b).2 (g k b)),h.n⟩
structure RZ (W0:World)(S T k:Nat)(L:List ByteArray)(wr:World)(F:Nat->Prop)(b:Bk)(v bv:Value):Prop where
 i:lH F S wr (oR (L.take k)).1 b v
 f:∀q,F q->q=S∨W0.heap.size<=q
 d:LO T bv (oR (L.take k)).2 wr
 b:∀q,bv.ownBlock=some q->W0.heap.size<=q/\¬F q
 w:aU (λq=>q=S∨q=T) W0 wr
theorem RZ.step (J:W≠T)(hT:T<w'.heap.size)(N:8<=T)(h:RZ w' W T k L wr F b v u)
 (C:lH m W w1 Q b' R)(hF:∀q,m q->F q∨wr.heap.size<=q)(y:aU F wr w1)
 (t:∀q,V.ownBlock=some q->u.ownBlock=some q∨w1.heap.size<=q)(l:aU (λq=>q=T∨u.ownBlock=some q) w1 M)
 (G:LO T j P B)(A:∀q,j.ownBlock=some q->V.ownBlock=some q∨M.heap.size<=q)(p:aU (λq=>q=T∨V.ownBlock=some q) M B)
 (O:oR (L.take (k+1))=(Q,P)):RZ w' W T (k+1) L B m b' R j:=by
 have K:¬F T:=λg=>(h.f T g).elim (λe=>J e.symm) (λe=>by omega);have hw:=h.w.size;have n:¬m T:=λg=>(hF T g).elim K (λe=>by omega);have o:∀q,u.ownBlock=some q->¬m q:=λq a g=>(hF q g).elim (h.b q a).2 (λe=>by have:=(h.d.r.lt q a).2;omega);have hs1:=y.size;have hs2:=l.size;have i:∀q,V.ownBlock=some q->¬m q:=λq a g=>(t q a).elim (λe=>o q e g) (λe=>by have:=(C.fl q g).2;omega);have s:∀q,j.ownBlock=some q->¬m q:=λq a g=>(A q a).elim (λe=>i q e g) (λe=>by have:=(C.fl q g).2;omega);have D:aU (λq=>¬m q) w1 B:=(l.wide (λq e=>e.elim (λe=>by rw[e];exact n) (o q))).trans (p.wide (λq e=>e.elim (λe=>by rw[e];exact n) (i q)));have z:∀q,u.ownBlock=some q->8<=q:=λq a=>by have:=(h.b q a).1;omega
 have H:zP B:=by
  have U:=C.e.but l (λq e=>e.elim (λe=>by rw[e];exact N) (z q));exact U.but p (λq e=>e.elim (λe=>by rw[e];exact N) (λe=>(t q e).elim (z q) (λg=>by omega)))
 have x:∀q,V.ownBlock=some q->w'.heap.size<=q:=λq a=>(t q a).elim (λe=>(h.b q e).1) (λe=>by omega);refine⟨by rw[O];exact C.out D H,λq g=>(hF q g).elim (h.f q) (λe=>.inr om),by rw[O];exact G,λq a=>⟨(A q a).elim (x q) (λe=>by omega),s q a⟩,?_⟩;exact((h.w.past y (λq g=>(h.f q g).elim (λe=>.inl (.inl e)) .inr)).past l (λq e=>e.elim (λe=>.inl (.inr e)) (λe=>.inr (h.b q e).1))).past p (λq e=>e.elim (λe=>.inl (.inr e)) (λe=>.inr (x q e)))
theorem WR (h:P∈fP o):P.size<=o.size:=by
 unfold fP at h;split at h;·exact pA (List.dropLast_sublist _ |>.subset h)
 ·exact pA h
theorem qQ (a:Ba)(w:Wd)(hE:zP w):
 aW 5 #[.string a] w λe w'=>e=rt (.string (BX a))/\aG w w':=by
 have m:Hid (BX a=if 20000<a.size then FS else if 300<ln (fP a)then FS else(oR (fP a)).2):=rfl
 go_enter Tryz.func5,Tryz.ntmps5
 go_wp2_with fail
 refine(KN a w hE).mono ?_
 rintro e w1 ⟨⟨h1,rfl⟩|⟨h1,cap,rfl,hX⟩,j⟩
 ·go_wp2
  go_ret;exact⟨by rw[m.oQ,if_pos h1];rfl,j⟩
 by_cases h3:ln (fP a)<=300
 ·have ze:∀x∈fP a,x.size<=1048000:=λx hx=>by have:=WR hx;omega
  have HR:Hid (BX a=(oR (fP a)).2):=by rw[Hid,m.oQ,if_neg h1,if_neg om]
  have t:decide (ln (fP a)<=300)=true:=det h3;rw[t];obtain⟨L,hL⟩:=bQ (fP a);rw[←hL]at hX h3 ze HR ⊢;clear hL t m h1;have M:=hE.zL j;have hA:=wnq w1 (.cells #[I 0,ms,ms,ms] 55);have p:aG w1 (w1.alloc (.cells #[I 0,ms,ms,ms] 55)):=aC (br _ _) _;have zz:(w1.alloc (.cells #[I 0,ms,ms,ms] 55)).heap.size=w1.heap.size+1:=by simp
  obtain⟨C,zg⟩:=cI (w1.alloc (.cells #[I 0,ms,ms,ms] 55));obtain⟨S,hS⟩:=cI w1.heap.size;rw[zg]at hA p zz;go_wp2_with fail
  refine(ID S C).mono ?_;rintro e w2 ⟨rfl,rfl⟩;have hB:=wnq C (.map (EP S) 9);have l:aG C (C.alloc (.map (EP S) 9)):=aC (br _ _) _;have yb:(C.alloc (.map (EP S) 9)).heap.size=C.heap.size+1:=by simp
  obtain⟨K,zh⟩:=cI (C.alloc (.map (EP S) 9));obtain⟨r,hr⟩:=cI C.heap.size;rw[zh]at hB l yb ⊢;rw[hr]at hB ⊢;have hC:=wnq K (.cells #[.pointer none,ms] 60);have c:aG K (K.alloc (.cells #[.pointer none,ms] 60)):=aC (br _ _) _;have yc:(K.alloc (.cells #[.pointer none,ms] 60)).heap.size=K.heap.size+1:=by simp
  obtain⟨U,zi⟩:=cI (K.alloc (.cells #[.pointer none,ms] 60));obtain⟨T,hT⟩:=cI K.heap.size;rw[zi]at hC c yc;rw[hT]at hC
  have zn:w.heap.size<w1.heap.size∨L=[]:=by
   rcases hX with h|⟨bl,off,e,hc⟩
   ·exact .inr h
   ·cases e
    by_cases h0:0<ln L
    ·exact .inl (aA (hc 0 h0 0 _ rfl))
    ·exact .inr (enl om)
  have yt:=M.s
  have H:Hid (w.heap.size<=w1.heap.size/\w1.heap.size=S/\r=S+1/\T=S+2/\U.heap.size=S+3/\8<=S/\(w.heap.size<S∨L=[])):=by
   have:=j.size;refine⟨this,hS,om,om,om,om,?_⟩;rw[←hS];exact zn
  have zb:=aI (aE (aE (aE j p) l) c);have yp:=aI (((hX.zL p).zL l).zL c);have yk:=aI (bJ hB c)
  have yl:Hid (RZ U S T 0 L U (λq=>q=S) ⟨0,none,[],0,none,[],0⟩ (ms) (ms)):=by
   obtain⟨V,W,X,Z,f5,f6,D⟩:=H.oQ;have yu:U.heap[S]?=some (.cells #[I 0,ms,ms,ms] 55):=by rw[←hS];exact bJ (bJ hA l) c
   refine⟨⟨yu,⟨rfl,.inl ⟨rfl,rfl⟩⟩,⟨⟨rfl,rfl,aT.refl _⟩,λw' _=>⟨.inl rfl,.inl rfl,λx hx=>by cases hx⟩,nlq _,by show 0<=_;omega⟩,rfl,λq y=>by simp[Value.ownBlock]at y,λq y=>?_,((M.zL p).zL l).zL c⟩,λq y=>.inl y,⟨⟨none,.inl rfl,hC⟩,⟨rfl,.inl ⟨rfl,rfl⟩⟩,by simp[Value.ownBlock]⟩,λq y=>by simp[Value.ownBlock]at y,aU.refl _ _⟩;have e:q=S:=y;rw[e];omega
  clear hA p zz hB l yb hC c yc zn hX M yt j zg zh hE;go_wp2
  clear zi hT hr hS
  go_loopw [20] (λiv wr=>∃k:Nat,k<=ln L/\iv=I k/\∃(F:Nat->Prop) (b:Bk) (v bv:Va),Hid (RZ U S T k L wr F b v bv)) (λiv _=>ln L-(intOf iv).toNat)
  case atStart=>exact⟨0,nz _,rfl,_,_,_,_,yl⟩
  case round=>
   obtain⟨k,hk,rfl,F,b,v,bv,z⟩:=hrel
   by_cases u:k<ln L
   ·have zu:(k:Int)<(ln L:Int):=om
    have zj:Xs 1 eE wr (some (ya w 0)) L:=yp.oQ.butS z.oQ.w (λe=>by
     obtain⟨V,W,X,Z,f5,f6,D|D⟩:=H.oQ
     ·rcases e with e|e<;>omega
     ·rw[D]at u;simp at u)
    have c0:=iC zj k L[k] (lge u);rw[nza]at c0;have zv:=bF yk.oQ z.oQ.w (λe=>by obtain⟨V,W,X,Z,f5,f6,D⟩:=H.oQ;rcases e with e|e<;>omega);obtain⟨B,yw⟩:=IW L k hk;have J:Hid _:=xC L k u;have zt:=ze _ (lgm u);obtain⟨x,hx⟩:=bQ (L[k]);rw[←hx]at c0 J zt;obtain⟨st,R⟩:=bQ ((oR (L.take k)).1);obtain⟨o,yv⟩:=bQ ((oR (L.take k)).2);have Q:=z.oQ.i;have P:=z.oQ.d;have G:=yB B (bG 32 x);rw[←R]at Q B G;rw[←yv]at P yw;have n:Hid (oR (L.take (k+1))=((aX st (bG 32 x)).1,o++(aX st (bG 32 x)).2++sLf)):=by rw[Hid,J.oQ,IR,←R,←yv]
    clear hx R yv zj J;go_wp2_with fail
    refine(PI F S wr st b v Q k B om x zt r 9 zv).mono ?_;rintro e w4 ⟨⟨F',b',v',A,zd⟩,rfl,N⟩;obtain⟨an,zk⟩:=bQ ((aX st (bG 32 x)).2);obtain⟨s4,zw⟩:=bQ ((aX st (bG 32 x)).1);rw[←zk]at G n ⊢;rw[←zw]at A n
    have zf:¬F T:=λg=>by
     obtain⟨V,W,X,Z,f5,f6,D⟩:=H.oQ
     rcases z.oQ.f T g with e|e<;>omega
    have zp:LO T bv o w4:=P.but N zf (λq y=>(z.oQ.b q y).2);have yi:=aI A;have yh:=aI zd;have ye:=aI N;have za:=aI A.e.s;clear zk zw A zd N zf P Q zv c0 B;go_wp2_with fail
    refine(xU T bv o an w4 zp om za.oQ).mono ?_;rintro e w5 ⟨⟨yr,rfl,zq,zx⟩,O⟩;have yd:=aI (nlt za.oQ O.size);have yn:=aI zx;have yf:=aI O
    have yq:Hid ((o++an).size+sLf.size<=140737488355328):=by
     have e:sLf.size=1:=rfl;rw[Hid,bsz,e];omega
    clear zx O zp;go_wp2_with fail
    refine(xU T yr (o++an) sLf w5 zq yq.oQ yd.oQ).mono ?_;rintro e w6 ⟨⟨ys,rfl,zr,zy⟩,zl⟩
    have yj:Hid (RZ U S T (k+1) L w6 F' b' v' ys):=by
     obtain⟨V,W,X,Z,f5,f6,D⟩:=H.oQ;exact z.oQ.step om om om yi.oQ yh.oQ ye.oQ yn.oQ yf.oQ zr zy zl n.oQ
    clear zq zr zy zl;go_wp2
    go_roundw
    case rel=>exact⟨k+1,om,gn,_,_,_,_,yj⟩
    case measure=>simp[intOf];omega
   ·have zu:¬(k:Int)<(ln L:Int):=om
    have zs:L.take k=L:=ltl om;have hd:=z.oQ.d;rw[zs]at hd;have zc:Hid (aG w wr):=z.oQ.w.under zb.oQ (nlq _) (λq e=>by obtain⟨V,W,X,Z,f5,f6,D⟩:=H.oQ;rcases e with e|e<;>omega);have ym:Hid (w.heap.size<=T):=by obtain⟨V,W,X,Z,f5,f6,D⟩:=H.oQ;rw[Hid];omega
    have yo:Hid (∀q,bv.ownBlock=some q->w.heap.size<=q):=λq y=>by have:=(z.oQ.b q y).1;have:=zb.oQ.size;omega
    clear zs;go_wp2_with fail
    refine(DK hd w.heap.size ym.oQ yo.oQ zc.oQ.size).mono ?_;rintro e w7 ⟨rfl,zm⟩;have yg:=aI (zc.oQ.trans zm);clear zm hd;go_wp2
    go_ret;exact⟨by rw[HR.oQ];rfl,yg.oQ⟩
 ·have t:decide (ln (fP a)<=300)=false:=def0 h3
  have HR:Hid (BX a=FS):=by rw[Hid,m.oQ,if_neg h1,if_pos om]
  rw[t];clear t m h1 h3;go_wp2
  go_ret;exact⟨by rw[HR.oQ];rfl,j⟩
theorem GU (n a:Nat)(z:Oa)(w:Wd)(M:zP w)(h:wQ w z n)(g:n<=a)(x:a<=9223372036854775807):
 aW 3 #[.slice z n a] w λe w'=>e=rt (.bool true)/\aG w w':=by
 by_cases h1:1048576<n
 ·have C:decide ((1048576:Int)<(n:Int))=true:=by rw[dte];omega
  go_enter Tryz.func3,Tryz.ntmps3
  go_wp2
  go_ret;exact⟨rfl,br _ _⟩
 have C:decide ((1048576:Int)<(n:Int))=false:=by rw[dfi];omega
 go_enter Tryz.func3,Tryz.ntmps3
 go_wp2_with fail
 refine(MM n a z w h om g x).mono ?_;rintro e w1 ⟨⟨s,rfl,N⟩,d⟩;have c:=aI (M.zL d);have j:=aI d;clear h g x d M
 go_upto_block 0 with fail
 go_cut [5] (λJ wc=>∃t:Ba,J=.string t/\t.size<=1000000000/\wc=w1)
 case first=>
  go_wp2_with fail
  go_loopw [4,5,6] (λR J K wr=>∃(k:Int) (i:Nat),R=I k/\J=.string s/\0<=k/\k<=100/\K=I (i:Int)/\i<=s.size/\wr=w1) (λ_ _ K _=>s.size-(intOf K).toNat)
  case atStart=>exact⟨3+(n:Int)%20,0,rfl,rfl,om,om,rfl,nz _,rfl⟩
  case round=>
   obtain⟨k,i,rfl,rfl,P,Q,rfl,hi,rfl⟩:=hrel
   by_cases hlt:i<s.size
   ·have y:(i:Int)<(s.size:Int):=om
    by_cases g:(s[i].toNat:Int)=10
    ·have G:((s[i].toNat:Int)==10)=true:=by simp[g]
     clear g
     by_cases hk:k=0
     ·have H:decide (k-1<0)=true:=by rw[dte];omega
      go_wp2
      go_meet
      exact⟨s.extract 0 (i+1),rfl,by rw[ByteArray.size_extract];omega,rfl⟩
     ·have H:decide (k-1<0)=false:=by rw[dfi];omega
      go_wp2
      go_roundw
      case rel=>exact⟨k-1,i+1,rfl,rfl,om,om,gn,om,trivial⟩
      case measure=>simp[intOf];omega
    ·have G:((s[i].toNat:Int)==10)=false:=by simp[g]
     clear g;go_wp2
     go_roundw
     case rel=>exact⟨k,i+1,rfl,rfl,P,Q,gn,om,trivial⟩
     case measure=>simp[intOf];omega
   ·have y:¬(i:Int)<(s.size:Int):=om
    go_wp2
    go_meet
    exact⟨s,rfl,N,rfl⟩
 case rest=>
 obtain⟨t,rfl,O,rfl⟩:=hcut;go_wp2_with fail
 refine(qQ t wc c.oQ).mono ?_;rintro e S ⟨rfl,f⟩;have q:=aI (c.oQ.zL f);have l:=aI (aE j.oQ f);obtain⟨A,D⟩:=cI (BX t);have L:=aI D;rw[D];clear f D;go_wp2_with fail
 refine(qQ s S q.oQ).mono ?_;rintro e T ⟨rfl,r⟩;have m:=aI (aE l.oQ r);obtain⟨B,F⟩:=cI (BX s);have p:=aI F;rw[F];clear r F;go_wp2_with fail
 refine(qL t T O).mono ?_;rintro e U ⟨rfl,u⟩;have o:=aI (aE m.oQ u);rw[L.oQ];clear u;go_wp2_with fail
 refine(qL s U N).mono ?_;rintro e w5 ⟨rfl,v⟩;have b:=aI (aE o.oQ v);rw[p.oQ];clear v j l m o c q L p
 by_cases hl:B.size<A.size
 ·go_wp2
  go_ret;exact⟨rfl,b.oQ⟩
 have hl2:(A.size:Int)<=(B.size:Int):=om
 cases hy:(B.extract 0 A.size).toList==A.toList with
 |true=>
  go_wp2
  go_ret;exact⟨rfl,b.oQ⟩
 |false=>
  go_wp2
  go_ret;exact⟨rfl,b.oQ⟩
