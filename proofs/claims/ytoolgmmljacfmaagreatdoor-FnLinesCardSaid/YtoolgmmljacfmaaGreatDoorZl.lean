import Derived.Test.YtoolgmmljacfmaaGreatDoorZj
import Derived.Test.YtoolgmmljacfmaaGreatDoorYh
import Derived.Lib.Builder
import Derived.Lib.AppendStr
import Derived.Laws.Externs
set_option maxRecDepth 100000
set_option maxHeartbeats 16000000
open List renaming length → ln
open Go.Proofs.Tryz Go.RowKit
namespace Go.Proofs.YtoolgmmljacfmaaGreatDoor
open Go.BigFrame
variable {t sz z n a Z:Nat}{w:Wd}{b k:Oa}{v m r:Va}{l:List Fx}{F:Nat → Prop}{s:St}{W:Bk}{d:List Ba}{nm:Ba}{i:List Int}{y:Fx}
theorem aAG (l:List Fx)(nm:Ba):qC l nm<=ln l:=(List.takeWhile_sublist _).length_le
theorem ZN {α:Type}{c:α->List Va}{l:List α}(h:bW t sz c w z (.slice b n a) l):∀q,b.map Addr.block=some q->z<=q:=λq d=>by
 rcases h with⟨e,_⟩|⟨g,_,e,f,_⟩;·cases e;cases d
 ·cases e;cases d;exact f
theorem LD (h:bW 34 3 Fx.cells w z v l):∃a c,v=.slice a (ln l) c/\Xs 3 Fx.cells w a l:=by
 obtain⟨a,c,e⟩:=h.slice;subst e;exact⟨a,c,rfl,h.xs Fx.cells_length⟩
theorem FY (h:bW 34 3 Fx.cells w z (.slice k n t) l):ln l<=t:=by
 rcases h with⟨e,rfl⟩|⟨g,_,e,_,b,_⟩;·exact nz _
 ·cases e;exact b
theorem lH.putF (h:lH F sz w s W v) (y:Fx) {z a c:_} (x:∀q,F q->q<z) (u:bW 34 3 Fx.cells w z (.slice a (ln (gY W.fl y)) c) (gY W.fl y)) (m:c<=9223372036854775807):
 lH (λq=>F q∨(z<=q/\q<w.heap.size)) sz (gI w sz ⟨W.now,a,gY W.fl y,c,W.ha,W.hl,W.hc⟩) ⟨gR s.b y,s.t⟩ ⟨W.now,a,gY W.fl y,c,W.ha,W.hl,W.hc⟩ v:=by
 have f:=dJ w sz ⟨W.now,a,gY W.fl y,c,W.ha,W.hl,W.hc⟩;have n:(gI w sz ⟨W.now,a,gY W.fl y,c,W.ha,W.hl,W.hc⟩).heap.size=w.heap.size:=by simp[gI,World.setCell]
 have l:=x sz h.fS;refine⟨aP (aP (aP h.o 0 _) 1 _) 2 _,jI h.h (λk cs _ m=>f.block k (iB m) (λe=>?_)),⟨⟨h.b.c.now,by show gY W.fl y=gY s.b.fl y;rw[h.b.c.fl],h.b.c.lk⟩,λp j=>?_,FY u,m⟩,.inl h.fS,λk d=>.inl (h.fh k d),λk d=>?_,h.e.but f (λk e=>by rw[e];exact(h.fl sz h.fS).1)⟩
 ·have A:k=sz:=e;subst A;rw[h.o]at m;simp at m
 ·have B:aU (λk=>k<z) w (gI w sz ⟨W.now,a,gY W.fl y,c,W.ha,W.hl,W.hc⟩):=f.wide (λk e=>by rw[e];exact l)
  have C:aU (λk=>k<z) w p:=B.trans ⟨j.os,j.tape,j.output,j.size,λk d D=>j.block k d (λe=>D (by
   rcases e with rfl|e|e;·exact l
   ·exact x k (h.fh k e)
   ·rcases Nat.lt_or_ge k z with g|g;·exact g
    ·exact absurd (.inr ⟨g,by rw[←n];exact d⟩) e))⟩
  have r:aU (λk=>k=sz∨v.ownBlock=some k∨¬F k) w p:=(f.wide (λk e=>.inl e)).trans (j.wide (λk e=>e.elim .inl (λe=>.inr (e.elim .inl (λe=>.inr (λg=>e (.inl g)))))));obtain⟨ao',c',e,hx⟩:=LD (u.but C (λk e=>e));cases e;exact⟨hx,(h.b.i p r).h,(h.b.i p r).i⟩
 ·rw[n];rcases d with d|d;·exact h.fl k d
  ·exact⟨by have:=(h.fl sz h.fS).1;omega,d.2⟩
theorem ws3 (h:ln d=3):∃a b c,d=[a,b,c]:=by
 match d,h with
 |[a,b,c],_=>exact⟨a,b,c,rfl⟩
def IF2 (vw:Value)(bl off:Nat)(nm:ByteArray)(vx:Value)(NL:List Int)(GD:Prop)(Z:Nat)(j:Nat)(v:Value)(w:World):Prop:=
 match j with
 |0|3=>v=vw
 |1=>v=(E bl off)
 |2=>v=.string nm
 |4=>v=vx
 |5=>(∃a c,v=.slice a 2 c/\∀w',KpW w w'->Xs 1 dV w' a NL)/\GD
 |6=>∃p,v=(E p 0)/\Z<=p/\w.heap[p]?=some (.cells #[.string ⟨#[]⟩] 9)
 |_=>True
theorem IF2.zL {h:Prop}(j:Nat)(v:Va)(w w':Wd)(d:IF2 m t sz nm r i h z j v w)(l:aG w w'):IF2 m t sz nm r i h z j v w':=by
 unfold IF2 at*;split at d
 all_goals first
  |exact d
  |(obtain⟨⟨a,c,e,f⟩,g⟩:=d;exact⟨⟨a,c,e,λq o=>f q (o.from l)⟩,g⟩)
  |(obtain⟨p,e,f,g⟩:=d;exact⟨p,e,f,bJ g l⟩)
def ZW (S:Nat)(b:Bk)(k:Nat)(y:Fx)(vn:Value)(g oo:Nat)(Z:Nat)(j:Nat)(v:Value)(w:World):Prop:=
 match j with
 |0|1|2=>v=(E S 0)
 |3=>v=(E S 1)
 |4=>v=.slice b.fa b.fl.length b.fc
 |5=>bW 34 3 Fx.cells w Z v b.fl/\nQ v
 |6=>v=I k
 |7=>v=.string y.n
 |8|11=>v=vn
 |9=>v=(E g oo)
 |10=>v=I y.x
 |12=>v=(E g (oo+1))
 |13=>v=I y.y
 |14=>v=y.val
 |15=>∃p,v=.slice (some (Y p 0)) 1 1/\w.heap[p]?=some (.cells #[.string y.n,I y.x,I y.y] 34)
 |_=>True
theorem ZW.zL (j:Nat)(v:Va)(w w':Wd)(a:ZW t W sz y m z n Z j v w)(c:aG w w'):ZW t W sz y m z n Z j v w':=by
 unfold ZW at*;split at a
 all_goals first
  |exact a
  |(exact⟨a.1.zL c,a.2⟩)
  |(obtain⟨p,f,h⟩:=a;exact⟨p,f,bJ h c⟩)
theorem PU (F:Nat->Prop)(S:Nat)(w:Wd)(s:St)(b:Bk)(v:Va)(hS:lH F S w s b v)(kk:Nat)(xs:jF kk s)(a:List Ba)(ao:Oa)(X:Nat)(hX:Xs 1 eE w ao a)(xn:ln a<=X)(xt:∀x∈a,x.size<=1048575):
 aW 34 #[E S 0,.slice ao (ln a) X] w λe w'=>XT F S w s (gH s a) e w':=by
 by_cases hl:ln a=3
 ·obtain⟨nm,xw,yw,J⟩:=ws3 hl
  obtain⟨bl,l,rfl⟩:∃bl l,ao=some (Y bl l):=by
   rcases hX with h|⟨bl,l,e,_⟩
   ·rw[h]at hl;simp at hl
   ·exact⟨bl,l,e⟩
  have xi:Xs 1 eE w (some (Y bl (l+1))) [xw,yw]:=jN hX 1 [nm] _ [] (by rw[J];rfl) rfl;have c0:=iC hX 0 nm (by rw[J];rfl);rw[naz]at c0;have xq:nm.size<=1048575:=xt nm (by rw[J];simp);obtain⟨i1,yc⟩:∃i,i=aV xw:=⟨_,rfl⟩;obtain⟨i2,yd⟩:∃i,i=aV yw:=⟨_,rfl⟩;obtain⟨y,hy⟩:=bQ (⟨nm,i1,i2⟩:Fx);have xb:Hid (y.n=nm):=by rw[Hid,hy]
  have qh:Hid (y.x=i1):=by rw[Hid,hy]
  have qi:Hid (y.y=i2):=by rw[Hid,hy]
  have qj:Hid (y.n.size<=1048575):=by rw[Hid,xb.oQ];exact xq
  have ys:Hid (j7 [xw,yw]=true->gH s a=if aO (gR s.b y)then(⟨gR s.b y,s.t⟩,VW)else(s,sNo)):=λh=>by rw[J,gH,if_pos h,hy,yc,yd]
  have zl:Hid (j7 [xw,yw]=false->gH s a=(s,dR)):=λh=>by rw[J,gH,h];rfl
  have yx:Hid (aS [xw,yw]=[i1,i2]):=by rw[Hid,yc,yd];rfl
  obtain⟨GD,Z⟩:∃GD:Prop,GD=(j7 [xw,yw]=true):=⟨_,rfl⟩;have zt:Hid (GD↔j7 [xw,yw]=true):=by rw[Hid,Z]
  have zz:=aI hS;have yj:=IF (hS.b.book.trans xs.b);have L:=aI yj.1;have xv:Hid (ln b.fl<=1048576):=by rw[Hid];omega
  have yr:=aI yj.2;rw[hl]at xn ⊢;clear J hX xt hl hy yc yd Z yj xq
  go_enter Tryz.func34,Tryz.ntmps34
  go_wp2_with (go_at_call 45;refine(gQ _).mono ?_;rintro e w' ⟨⟨u,rfl⟩,xu⟩;rw[xu];clear xu)
  refine pG 7 [some 13,some 14,some 15,some 16,some 17,some 18,some 5] (IF2 (sl bl l 3 X) bl l nm (sl bl (l+1) 2 (X-1)) [i1,i2] GD w.heap.size) IF2.zL ?step ?fin
  case step=>
   intro ii o vs w' ym zk m p;have ql:=ctq m c0
   match ii,ym with
   |1,_|2,_|4,_=>
    cases zk
    simp[Region.binds,IF2]at p
    simp only[aD,Act.put,p];gi_wp2;exact⟨_,by simp[aH,p],rfl,br _ _⟩
   |0,_|3,_=>
    cases zk
    gi_wp2;exact⟨_,uhx,rfl,br _ _⟩
   |5,_=>
    cases zk
    simp[Region.binds,IF2]at p
    simp only[aD,Act.put,p];gi_wp2_with fail
    refine tqx ?_;refine(cw.2 (kE [xw,yw] (some (Y bl (l+1))) (X-1) w' (xi.zL m) sm)).mono ?_
    rintro e w5 ⟨⟨zq,v5,rfl,xr⟩|⟨zp,rfl⟩,zb⟩
    ·have HG:Hid GD:=zt.oQ.2 (pY zq)
     obtain⟨a5,c5,e5,H⟩:=FL (eN [xw,yw]).symm xr;rw[yx.oQ]at e5 H;subst e5;have xz:=aI H;clear H xr zq;gi_wp2;exact⟨.slice a5 2 c5,by simp[aH,p],⟨⟨a5,c5,rfl,xz.oQ⟩,HG.oQ⟩,zb⟩
    ·have HZ:=aI (zl.oQ (sA zp))
     have qe:=aI (aE m zb);clear zp zb;gi_wp2;exact⟨rfl,.inl ⟨HZ.oQ,rfl,qe.oQ⟩⟩
   |6,_=>
    cases zk
    gi_wp2;exact⟨_,uhx,⟨_,rfl,m.size,wnq w' _⟩,aC (br _ _) _⟩
   |q+7,h=>omega
  case fin=>
   intro vs w8 m hp;obtain⟨⟨a5,c5,e5,H⟩,Z⟩:=hp 5 dz;have e2:vs 2=.string nm:=hp 2 dz;obtain⟨P,e6,hP,za⟩:=hp 6 dz;have yk:aU (λr=>r=P) w8 (w8.setCell (Y P 0) (.string nm)):=(aU.refl (λr=>r=P) w8).set (g:=P) rfl _ _
   have xj:Xs 1 dV (w8.setCell (Y P 0) (.string nm)) a5 [i1,i2]:=H _ (λk c t ht hc=>yk.block k (iB hc) (λe=>by
    have e':k=P:=e;rw[e',za]at hc
    cases hc
    simp at ht))
   have yt:=aI (ys.oQ (zt.oQ.1 Z));have Q:Hid (aG w (w8.setCell (Y P 0) (.string nm))):=yk.under m (nlq _) (λk e=>by rw[e];exact hP);have yg:(w8.setCell (Y P 0) (.string nm)).heap[P]?=some (.cells #[.string nm] 9):=aP za 0 _;have t0:w8.cell? (Y P 0)=some (.string ⟨#[]⟩):=aB za rfl;have tf:=jS za;clear hp m H Z za yk ys zt yx zl xi c0 hS;simp only[lds,ldz,aD,Act.put];rw[e2,e5,e6];clear e2 e5 e6;generalize vs=vs;gi_wp2_with fail
   go_upto_region 3 with fail
   obtain⟨W2,xg⟩:=cI (w8.setCell (Y P 0) (.string nm));rw[xg]at xj Q yg ⊢;clear xg t0 tf;have zw:Hid (aG w W2):=Q.oQ;have p0:W2.cell? (Y P 0)=some (.string y.n):=by rw[xb.oQ];exact aB yg rfl
   rcases xj with h|⟨g,oo,rfl,yl⟩
   ·cases h
   have j0:W2.cell? (Y g oo)=some (I y.x):=by have:=yl 0 sm 0 _ rfl;rw[qh.oQ];simpa using this
   have j1:W2.cell? (Y g (oo+1))=some (I y.y):=by have:=yl 1 sm 0 _ rfl;rw[qi.oQ];simpa using this
   have zi:=zz.oQ.zL zw.oQ;obtain⟨x0,x1,x2,x3⟩:=zi.c;clear yl yg Q;go_wp2_with fail
   refine(VH b.fl b.fa b.fc P y.n W2 zi.b.inn.f (by have:=L.oQ;omega) p0).mono ?_;rintro e w3 ⟨xp,G⟩
   obtain⟨r,rfl,hr⟩:∃r:Int,e=rt (I r)/\((0<=r/\r=(qC b.fl y.n:Int))∨(r<0/\qC b.fl y.n=ln b.fl)):=by
    rcases xp with⟨_,h⟩|⟨h1,h⟩
    ·exact⟨_,h,.inl ⟨om,rfl⟩⟩
    ·exact⟨_,h,.inr ⟨om,h1⟩⟩
   have qf:=aI hr;have yv:=aI (aE zw.oQ G)
   replace p0:=ctq G p0
   replace j0:=ctq G j0
   replace j1:=ctq G j1
   obtain⟨x0,x1,x2,x3⟩:=(zi.zL G).c;clear xp hr G zi zw
   go_upto_if 27 with fail
   go_cut [7] (λv7 wx=>v7=I (qC b.fl y.n)/\wx=w3)
   case first=>
    rcases qf.oQ with⟨h0,rfl⟩|⟨h0,h1⟩
    ·have hd0:¬((qC b.fl y.n:Int)<0):=om
     go_wp2
     go_meet
     exact⟨rfl,rfl⟩
    ·have H1:=aI h1
     clear h1;go_wp2
     go_meet
     exact⟨by rw[H1.oQ],rfl⟩
   case rest=>
    obtain⟨rfl,rfl⟩:=hcut;have ze:Hid ((wc.alloc b.obj).heap[wc.heap.size]?=some b.obj):=wnq wc _;have zd:aG wc (wc.alloc b.obj):=aC (br _ _) _;have R:=aI (aE yv.oQ zd);have O:=aI yv.oQ.size;have A:Hid (wc.heap.size<(wc.alloc b.obj).heap.size):=by rw[Hid];simp
    replace j0:=ctq zd j0
    replace j1:=ctq zd j1
    replace p0:=ctq zd p0
    clear zd
    go_upto_region 7 with fail
    obtain⟨M,hM⟩:=cI wc.heap.size;obtain⟨U,zj⟩:=cI (wc.alloc b.obj);rw[zj]at ze R A j0 j1 p0;rw[hM]at ze O A
    first|rw[zj,hM]|(have zn:=zj;simp only[Bk.obj]at zn;rw[zn,hM])
    have HM:Hid (U.heap[M]?=some b.obj):=ze.oQ;have zx:Hid (aG w U):=R.oQ;have qb:Hid (w.heap.size<=M):=O.oQ;have qc:Hid (M<U.heap.size):=A.oQ;have yh:=zz.oQ.zL zx.oQ;have xx:Hid (∀q,F q->q<U.heap.size):=λq hq=>(yh.fl q hq).2;obtain⟨k,hk⟩:=bQ (qC b.fl y.n);have HK:Hid (k<=ln b.fl):=by rw[Hid,hk];exact aAG _ _
    have N:Hid (gY b.fl y=b.fl.take k++y::b.fl.drop k):=by rw[Hid,gY,←hk]
    have zu:Hid (ln (gY b.fl y)=ln b.fl+1):=by rw[Hid,N.oQ];have:=HK.oQ;simp;omega
    have qg:Hid (∀f∈gY b.fl y,f.n.size<=9223372036854775807):=λf hf=>by
     rw[N.oQ]at hf
     rcases lma.1 hf with h|h
     ·have:=yr.oQ f (lmt h);omega
     ·rcases lmc.1 h with rfl|h
      ·have:=qj.oQ;omega
      ·have:=yr.oQ f (lmd h);omega
    rw[←hk];clear hk zj hM ze R O A;refine pG 16 [some 38,some 39,some 40,some 41,some 42,some 43,some 44,some 45,some 46,some 47,some 48,some 49,some 50,some 51,some 52,some 53] (ZW S b k y (sl g oo 2 c5) g oo U.heap.size) ZW.zL ?step ?fin
    case step=>
     intro ii o vs w' ym zk m p;obtain⟨ql,z1z,z2z,z3z⟩:=(yh.zL m).c;have q0q:=ctq m p0;have j0j:=ctq m j0;have j1j:=ctq m j1
     match ii,ym with
     |1,_|2,_|3,_|4,_|9,_|10,_|12,_|13,_|14,_=>
      cases zk
      simp[Region.binds,ZW]at p
      simp only[aD,Act.put,p];gi_wp2;exact⟨_,by simp[aH,p],rfl,br _ _⟩
     |0,_|6,_|7,_|8,_|11,_=>
      cases zk
      gi_wp2;exact⟨_,uhx,rfl,br _ _⟩
     |5,_=>
      cases zk
      simp[Region.binds,ZW]at p
      simp only[aD,Act.put,p];gi_wp2_with fail
      refine tqx ?_;refine(cw.2 (AJ b.fl b.fa b.fc w' (yh.zL m).b.inn.f xv.oQ)).mono ?_;rintro e w5 ⟨⟨v5,rfl,z,xl⟩,zb⟩;have T:=aI (z.weak m.size);have zs:=aI xl;clear z xl;gi_wp2;exact⟨_,by simp[aH,p],⟨T.oQ,zs.oQ⟩,zb⟩
     |15,_=>
      cases zk
      simp[Region.binds,ZW]at p
      simp only[aD,Act.put,p];gi_wp2;exact⟨_,by simp[aH,p],⟨_,rfl,wnq w' _⟩,aC (br _ _) _⟩
     |q+16,h=>omega
    case fin=>
     intro vs w8 m hp;obtain⟨z,ye⟩:=hp 5 dz;have e6:vs 6=I k:=hp 6 dz;obtain⟨V,xd,hV⟩:=hp 15 dz;obtain⟨qk,xe,e5⟩:=z.slice;rw[e5]at z ye;have xc:=aI m.size;have T:=aI z;have zs:Hid (xe<=maxLen):=ye _ _ _ rfl;have xa:=aI hV;have yo:=aI m;clear hp m z ye hV;simp only[lds,ldz,aD,Act.put];rw[e5,e6,xd];clear e5 e6 xd;generalize vs=vs;gi_wp2_with fail
     refine tqx ?_;refine(cw.2 (L9 U.heap.size b.fl qk xe k V y w8 T.oQ zs.oQ HK.oQ (by have:=L.oQ;omega) xa.oQ xc.oQ)).mono ?_;rintro e w9 ⟨a9,W,rfl,xf,xm,xk⟩;have zc:aG U w9:=xk.under yo.oQ (nlq _) (λq hq=>ZN T.oQ q hq);have zf:w9.heap[M]?=some b.obj:=bJ HM.oQ zc;have qd:=aI (aE zx.oQ zc);have yi:aU (λq=>q=M) w9 (w9.setCell (Y M 1) (.slice a9 (ln b.fl+1) W)):=(aU.refl (λq=>q=M) w9).set (g:=M) rfl _ _;have zg:Hid (aG w (w9.setCell (Y M 1) (.slice a9 (ln b.fl+1) W))):=yi.under qd.oQ (nlq _) (λq e=>by rw[e];exact qb.oQ);have zv:Hid ((w9.setCell (Y M 1) (.slice a9 (ln b.fl+1) W)).heap[M]?=some (.cells #[I b.now,.slice a9 (ln b.fl+1) W,hs b] 32)):=aP zf 1 _;have zy:Hid (bW 34 3 Fx.cells (w9.setCell (Y M 1) (.slice a9 (ln b.fl+1) W)) U.heap.size (.slice a9 (ln b.fl+1) W) (b.fl.take k++y::b.fl.drop k)):=xf.but yi (λq e=>by rw[e];exact qc.oQ);obtain⟨m0,m1,m2⟩:=aM zf;have mf:∀i,w9.frozen? (Y M i)=false:=λi=>by simp[World.frozen?,zf,Bk.obj]
     have yq:Hid (W<=9223372036854775807):=by unfold maxLen at xm;rw[Hid];omega
     clear xf xm xk zc zf yi T xa yo xc;gi_wp2_with fail
     go_upto_region 8 with fail
     obtain⟨W9,xh⟩:=cI (w9.setCell (Y M 1) (.slice a9 (ln b.fl+1) W));rw[xh]at zg zv zy ⊢;clear xh m0 m1 m2 mf;have D:=zz.oQ.zL zg.oQ;obtain⟨b',j⟩:=bQ (⟨b.now,a9,gY b.fl y,W,b.ha,b.hl,b.hc⟩:Bk);have zh:Hid (bW 34 3 Fx.cells W9 U.heap.size (fs b') b'.fl):=by rw[Hid,j];show bW _ _ _ _ _ (.slice a9 (ln (gY b.fl y)) W) (gY b.fl y);rw[zu.oQ,N.oQ];exact zy.oQ
     have qa:Hid (W9.heap[M]?=some b'.obj):=by rw[Hid,j];show W9.heap[M]?=some (Obj.cells #[I b.now,.slice a9 (ln (gY b.fl y)) W,hs b] 32);rw[zu.oQ];exact zv.oQ
     have zr:=aI (j)
     have C:iX W9 b':=by
      have ha:=D.b.asks xs.b;obtain⟨ao',c',e,hx⟩:=LD zh.oQ
      cases e
      refine⟨hx,?_,FY zh.oQ,?_,?_,?_,?_,?_⟩
      ·have:=L.oQ;have:=zu.oQ;rw[j];show(ln (gY b.fl y))<=_;omega
      ·rw[j];exact yq.oQ
      ·rw[j];exact qg.oQ
      ·rw[j];exact ha.hh
      ·rw[j];exact ha.hnh
      ·rw[j];exact ha.hgood
     have yp:Hid (aO b'=aO (gR s.b y)):=by rw[Hid,j];exact nS (b:=gR s.b y) D.b.c.now (by show gY b.fl y=gY s.b.fl y;rw[D.b.c.fl]) D.b.c.lk
     obtain⟨m0,m1,m2⟩:=aM qa.oQ;have yb:=aI D;clear j zy zv D
     cases hbk:aO (gR s.b y)with
     |false=>
      have HR:Hid (gH s a=(s,sNo)):=by rw[Hid,yt.oQ,hbk];rfl
      go_wp2_with fail
      refine(tY C false (by rw[yp.oQ];exact hbk)).mono ?_;rintro e K ⟨rfl,d⟩;have yz:=aI (yb.oQ.zL d);have yu:=aI (aE zg.oQ d);clear d C hbk;go_wp2
      go_ret;exact .inr ⟨⟨F,b,v,by rw[HR.oQ];exact yz.oQ,λq hq=>.inl hq⟩,by rw[HR.oQ];rfl,aU.below yu.oQ⟩
     |true=>
      have HR:Hid (gH s a=(⟨gR s.b y,s.t⟩,VW)):=by rw[Hid,yt.oQ,hbk];rfl
      go_wp2_with fail
      refine(tY C true (by rw[yp.oQ];exact hbk)).mono ?_;rintro e K ⟨rfl,d⟩;have B:=yb.oQ.zL d;obtain⟨y0,y1,y2,y3⟩:=B.c;have yf:=B.fz
      replace m0:=ctq d m0
      replace m1:=ctq d m1
      replace m2:=ctq d m2
      have yy:Hid (lH (λq=>F q∨(U.heap.size<=q/\q<K.heap.size)) S (gI K S b') ⟨gR s.b y,s.t⟩ b' v):=by
       have zm:=zh.oQ.zL d;rw[zr.oQ]at zm;rw[Hid,zr.oQ];exact B.putF y xx.oQ zm yq.oQ
      have xy:Hid (∀q,(F q∨(U.heap.size<=q/\q<K.heap.size))->F q∨w.heap.size<=q):=λq hq=>hq.elim .inl (λh=>.inr (nlt zx.oQ.size h.1));have yn:Hid (aU F w (gI K S b')):=(aU.below (aE zg.oQ d)).trans ((dJ K S b').wide (λq e=>by rw[e];exact yb.oQ.fS));clear d C hbk B zh zr;go_wp2
      go_ret;exact .inr ⟨⟨_,b',v,by rw[HR.oQ];exact yy.oQ,xy.oQ⟩,by rw[HR.oQ];rfl,yn.oQ⟩
 ·have HR:Hid (gH s a=(s,dR)):=uR hl
  have hl':((ln a:Int)==3)=false:=by rw[bfn];omega
  clear hl
  go_enter Tryz.func34,Tryz.ntmps34
  go_wp2_with (go_at_call 45;refine(jU _).mono ?_;rintro e w' ⟨rfl,rfl⟩)
  exact⟨rfl,.inl ⟨HR.oQ,rfl,br _ _⟩⟩
variable {P:Program}{k:Array Oper}{c:List Oper}{o:Oper}{a:Act}{Q:Exit → Act → Wd → Prop}{T:Nat}{n:Ba}
theorem xG {P:Program}(w:Wd)(base:Nat)(t u p e:TypeId)(i:TypeInfo)(x:P.underlying t=some (.slice e))(y:P.underlying u=some .string)(q:P.info? e=some i)(B:i.zero=some (.int .u8 0))(a:i.size=1)(k:i.bytes=1)(v:Va)(n:Nat)(xs:List Va)(b:w.ownsRow base e 1 v n xs)(s:Ba)(d:n+s.size<=140737488355328)(h:base<=w.heap.size):
 ∃o w',(Builtin.append_ #[t,u] p #[v,.string s]).run P w=.ok o w'/\w'.ownsRow base e 1 o (n+s.size) (xs++Lib.strCells s)/\w.grownBy w' v.ownBlock/\(o.ownBlock=v.ownBlock∨o.ownBlock=some w.heap.size):=by
 obtain⟨o,w',r,C,D,F⟩:=Lib.run_append_own_string (P:=P) w base t u p e i x y q B a k v n xs b s (by unfold maxLen;omega) d h;refine⟨o,w',r,C,D,?_⟩;have A:ln xs=n:=by simpa using b.1
 rcases b.2 with⟨rfl,rfl⟩|⟨g,f,z,rfl,hbg,G,hnc,hcm,hcs,htake⟩
 ·by_cases H:s.size=0;·rw[F.2 ⟨rfl,H⟩];exact .inl rfl
  ·have c:=run_append_nil_string (P:=P) w t u p e i (.int .u8 0) x y q B s om om (by rw[k];omega);cases r.symm.trans c;exact .inr rfl
 ·by_cases m:n+s.size<=f
  ·have c:=Lib.run_append_room_string (P:=P) w t u p e i x y q a g n f z G s m om;cases r.symm.trans c;exact .inl rfl
  ·have l:∀j u,xs[j]?=some u->w.cell? (((Y g 0):Addr).add j)=some u:=b.cells (g:=g) rfl;have c:=Lib.run_append_grow_string (P:=P) w t u p e i (.int .u8 0) x y q B (Y g 0) n f xs (by rw[a];simpa using A) l s om om (by rw[k];exact growslice_fits om om);cases r.symm.trans c;exact .inr rfl
theorem Tryz.infoBld:(prog.info? 60).map (λj=>j.size)=some 2:=kr
theorem oU (m:o.guard=none) (p x:Operand) (t u:TypeId) (B:o.op=.call { callee:=.builtin .append,args:=#[p,x],argTypes:=#[t,u]})
 (base:Nat) (e:TypeId) (i:TypeInfo) (F:P.underlying t=some (.slice e)) (G:P.underlying u=some .string) (A:P.info? e=some i) (H:i.zero=some (.int .u8 0)) (f:i.size=1) (l:i.bytes=1) (v:Va) (n:Nat) (xs:List Va) (D:a.eval p=v) (j:w.ownsRow base e 1 v n xs) (s:Ba) (hx:a.eval x=.string s) (b:n+s.size<=140737488355328) (d:base<=w.heap.size)
 (h:∀g w',w'.ownsRow base e 1 g (n+s.size) (xs++Lib.strCells s)->w.grownBy w' v.ownBlock->(g.ownBlock=v.ownBlock∨g.ownBlock=some w.heap.size)->wpList P k Q c (a.put o.dst g) w'):wpList P k Q (o::c) a w:=by
 refine wpList_plain m λK z=>?_;obtain⟨g,w',C,q,r,y⟩:=xG (P:=P) w base t u o.type e i F G A H f l v n xs j s b d;unfold Oper.wp execOp;simp only[B,resolve,invoke,builtin,Sem.run_bind,Sem.run_pure,Result.andThen_ok,List.map_toArray,List.map_cons,List.map_nil,D,hx,C];exact z _ _ (h g w' q r y)
structure LO (T:Nat)(v:Value)(o:ByteArray)(w:World):Prop where
 c:∃p:Option Addr,(p=none∨p=some ⟨T,0,none⟩)/\w.heap[T]?=some (.cells #[.pointer p,v] 60)
 r:w.ownsRow 8 5 1 v o.size (Lib.strCells o)
 n:v.ownBlock≠some T
theorem BB (T:Nat)(w:Wd)(h0:w.cell? (Y T 0)=some (E T 0)):
 aW 43 #[E T 0] w λe w'=>(∃v,e=rt v)/\w'=w:=by
 obtain⟨j,a,_⟩:=Option.map_eq_some_iff.1 Tryz.infoBld;go_enter func43,ntmps43;go_wp2;rw[Lib.run_neq_ptr_same w _ underlying58 a];go_wp2;exact bodyPost_end (results_none rfl _ _ _) rfl ⟨⟨_,rfl⟩,rfl⟩
theorem zC (T:Nat)(w:Wd)(h0:w.cell? (Y T 0)=some (.pointer none))(a:w.shape? T=some (60,2))(hfz:∀i,w.frozen? (Y T i)=false):
 aW 43 #[E T 0] w λe w'=>(∃v,e=rt v)/\w'=w.setCell (Y T 0) (E T 0):=by
 obtain⟨j,c,b⟩:=Option.map_eq_some_iff.1 Tryz.infoBld;go_enter func43,ntmps43;go_wp2;rw[Lib.run_to_unsafe w (Y T 0) underlying58 underlying139 c (by rw[b];decide) a (Nat.zero_lt_succ 1)];simp only[Result.andThen];rw[Oper.upon_value];go_wp2;rw[rce func90 kr kr kr (e:=Extern.AbiNoEscape.same) kr];rw[Lib.run_noEscape];simp only[Result.andThen];rw[Oper.upon_value];go_wp2;rw[Lib.run_from_unsafe w (Y T 0) underlying139 underlying58 c a kr];simp only[Result.andThen];rw[Oper.upon_value];go_wp2;exact bodyPost_end (results_none rfl _ _ _) rfl ⟨⟨_,rfl⟩,rfl⟩
theorem EO (h:LO T v n w):
 aW 43 #[E T 0] w λe w'=>(∃u,e=rt u)/\w'.heap[T]?=some (.cells #[E T 0,v] 60)/\aU (λk=>k=T) w w':=by
 obtain⟨p,rfl|rfl,a⟩:=h.c
 ·refine(zC T w (aB a rfl) (by simp[World.shape?,a]) (λi=>by simp[World.frozen?,a])).mono ?_;rintro e w' ⟨⟨u,rfl⟩,rfl⟩;exact⟨⟨u,rfl⟩,aP a 0 _,(aU.refl (λk=>k=T) w).set (g:=T) rfl _ _⟩
 ·refine(BB T w (aB a rfl)).mono ?_;rintro e w' ⟨⟨u,rfl⟩,rfl⟩;exact⟨⟨u,rfl⟩,a,aU.refl _ _⟩
theorem Tryz.infoByte8:(prog.info? 5).map (λi=>(i.zero,i.size,i.bytes))=some (some (.int .u8 0),1,1):=kr
theorem IV (a b:Ba):Lib.strCells (a++b)=Lib.strCells a++Lib.strCells b:=by simp[Lib.strCells]
theorem xU (T:Nat)(v:Va)(o s:Ba)(w:Wd)(h:LO T v o w)(hlen:o.size+s.size<=140737488355328)(h8:8<=w.heap.size):
 aW 19 #[E T 0,.string s] w λe w'=>(∃F,e=rt (.tuple #[I s.size,.nilIface])/\LO T F (o++s) w'/\∀k,F.ownBlock=some k->v.ownBlock=some k∨w.heap.size<=k)/\aU (λk=>k=T∨v.ownBlock=some k) w w':=by
 obtain⟨U,R,L,M,N⟩:=info_parts Tryz.infoByte8
 go_enter func19,ntmps19
 go_wp2_with fail
 refine(EO h).mono ?_;rintro e w1 ⟨⟨u,rfl⟩,y,l⟩
 have D:w1.ownsRow 8 5 1 v o.size (Lib.strCells o):=jI h.r (λk Q _ t=>l.block k (iB t) (λe=>by
  have J:k=T:=e;obtain⟨p,_,x⟩:=h.c;rw[J,x]at t
  simp at t))
 have P:w1.cell? (Y T 1)=some v:=aB y rfl;have hs1:=l.size
 go_wp2_with (at_builtin;refine oU rfl _ _ 22 9 rfl 8 5 U underlying22 underlying9 R L M N _ _ _ rfl D s rfl ?c4 ?c5 ?_)
 case c4=>omega
 case c5=>omega
 intro F f b a B;have m:aU (λk=>v.ownBlock=some k) w1 f:=⟨a.os,a.tape,a.output,a.size,λk C S=>a.block k C (λe=>S e.symm)⟩;have d:f.heap[T]?=some (.cells #[E T 0,v] 60):=bF y m h.n
 obtain⟨i,A,j,rfl⟩:∃i A j,F=.slice i A j:=by
  rcases b.2 with⟨K,_⟩|⟨g,cap,cur,K,_⟩
  ·exact⟨_,_,_,K⟩
  ·exact⟨_,_,_,K⟩
 have d1:f.cell? (Y T 1)=some v:=aB d rfl;have f1:=jS d;have q:aU (λk=>k=T) f (f.setCell (Y T 1) (.slice i A j)):=(aU.refl (λk=>k=T) f).set (g:=T) rfl _ _
 have z:∀k,(Value.slice i A j).ownBlock=some k->v.ownBlock=some k∨w.heap.size<=k:=λk C=>by
  rcases B with ha|ha
  ·exact .inl (ha▸C)
  ·rw[ha]at C
   have:w1.heap.size=k:=by simpa using C
   exact .inr om
 have G:Hid (aU (λk=>k=T∨v.ownBlock=some k) w (f.setCell (Y T 1) (.slice i A j))):=((l.wide (λ_ e=>.inl e)).trans (m.wide (λ_ e=>.inr e))).trans (q.wide (λ_ e=>.inl e))
 have H:Hid (LO T (.slice i A j) (o++s) (f.setCell (Y T 1) (.slice i A j))):=by
  refine⟨⟨_,.inr rfl,aP d 1 _⟩,?_,λe=>?_⟩
  ·rw[bsz,IV]
   exact jI b (λk Q _ t=>q.block k (iB t) (λe=>by
    have J:k=T:=e;rw[J,d]at t
    simp at t))
  ·rcases z T e with g|g
   ·exact h.n g
   ·obtain⟨p,_,x⟩:=h.c
    have:=iB x;omega
 have O:=aI z;clear b a B m q z d y D P;go_wp2
 exact bpr (v:=.tuple #[I s.size,.nilIface]) (by simp[results,results19,go_sem]) rfl ⟨⟨_,rfl,H.oQ,O.oQ⟩,G.oQ⟩
variable {S S':Nat → Prop}{a w':Wd}{n e m:Nat}{l:Va}{o:Ba}{xs:List Va}{b:Bk}{ta:Oa}{k:List Ba}{c:Int}{L:List Sp}
theorem aU.past (h:aU S a w)(g:aU S' w w')(d:∀k,S' k->S k∨a.heap.size<=k):aU S a w':=⟨g.os.trans h.os,g.tape.trans h.tape,g.output.trans h.output,nlt h.size g.size,λk b c=>(g.block k (nll b h.size) (λe=>(d k e).elim c (λe2=>absurd b om))).trans (h.block k b c)⟩
theorem LO.zL {w w':Wd}(h:LO T v o w)(a:aG w w'):LO T v o w':=by
 obtain⟨p,d,b⟩:=h.c;exact⟨⟨p,d,bJ b a⟩,dC h.r a,h.n⟩
theorem XI (h:w.ownsRow T e sz v m xs)(i:∀k,v.ownBlock=some k->n<=k):w.ownsRow n e sz v m xs:=by
 obtain⟨c,h|⟨g,a,b,d,h2,f⟩⟩:=h;·exact⟨c,.inl h⟩
 ·exact⟨c,.inr ⟨g,a,b,d,i g (by rw[d];rfl),f⟩⟩
theorem DK (h:LO T v o w)(B:Nat)(f:B<=T)(j:∀k,v.ownBlock=some k->B<=k)(b:B<=w.heap.size):
 aW 21 #[E T 0] w λe w'=>e=rt (.string o)/\Below B w w':=by
 have i:Lib.IsBuilder 60 5 B T (Lib.byteCells o.data.toList) w:=by
  have g:w.ownsRow B 5 1 v (ln (Lib.byteCells o.data.toList)) (Lib.byteCells o.data.toList):=by
   rw[←Lib.strCells_eq,Lib.strCells_length];exact XI h.r j
  obtain⟨p,d|d,a⟩:=h.c
  ·rw[d]at a;exact .inl ⟨f,v,a,g,h.n⟩
  ·rw[d]at a;exact .inr ⟨f,v,a,g,h.n⟩
 exact Tryz.Builder_String_any B T o.data.toList w i b
theorem lH.tb (h:lH S' T w s b (.slice ta (ln s.t) n)):jG w ta s.t:=by
 obtain⟨ta',tc',e,hx⟩:=h.hv;cases e;exact hx
def IK2 (vw:Value)(bl off:Nat)(nm x:ByteArray)(n:Int)(j:Nat)(v:Value)(_w:World):Prop:=
 match j with
 |0|3=>v=vw
 |1=>v=(E bl off)
 |2=>v=.string nm
 |4=>v=(E bl (off+1))
 |5=>v=.string x
 |6=>v=I n/\0<=n
 |_=>True
def IK4 (S:Nat)(b:Bk)(nm:ByteArray)(tv:Value)(most:Int)(L:List Sp)(E:Prop)(Z:Nat)(j:Nat)(v:Value)(w:World):Prop:=
 match j with
 |0|1|2|5|6=>v=.pointer (some (Y S 0))
 |3=>v=b.val
 |4=>v=.string nm
 |7=>v=.pointer (some (Y S 3))
 |8=>v=tv
 |9=>v=I most
 |10=>lI w Z v L/\E
 |11=>v=I L.length
 |12=>v=I 0
 |_=>True
theorem IK4.zL {a:Prop}(j:Nat)(v:Va)(w w':Wd)(d:IK4 T b o l c L a n j v w)(f:aG w w'):IK4 T b o l c L a n j v w':=by
 unfold IK4 at*;split at d
 all_goals first
  |exact d
  |(exact⟨d.1.zL f,d.2⟩)
theorem R6 (F:Nat->Prop)(S:Nat)(w:Wd)(s:St)(b:Bk)(v:Va)(hS:lH F S w s b v)(kk:Nat)(zw:jF kk s)(hkk:kk<=1000)(a:List Ba)(ao:Oa)(yq:Nat)(hX:Xs 1 eE w ao a):
 aW 41 #[E S 0,.slice ao (ln a) yq] w λe w'=>XT F S w s (oC s a) e w':=by
 by_cases hl:ln a=2
 ·obtain⟨nm,x,rfl⟩:∃nm x,a=[nm,x]:=by
   match a,hl with
   |[nm,x],_=>exact⟨nm,x,rfl⟩
  obtain⟨ta,tc,rfl,_⟩:=hS.hv;have M:=aI hS
  rcases hX with h|⟨bl,i,rfl,zs⟩
  ·cases h
  have c0:w.cell? (Y bl i)=some (.string nm):=by have:=zs 0 sm 0 _ rfl;simpa using this
  have c1:w.cell? (Y bl (i+1))=some (.string x):=by have:=zs 1 sm 0 _ rfl;simpa using this
  clear hl zs;obtain⟨n,hx⟩:=cI (aV x);have yp:=aI hx;have yc:Hid (n=-1->oC s [nm,x]=(s,dR)):=λh=>by rw[oC,hx,if_neg om]
  have xt:Hid (0<=n->oC s [nm,x]=(s,nO s.b nm s.t n)):=λh=>by rw[oC,hx,if_pos h]
  have yl:Hid (ln s.t<=1048576):=by rw[Hid];have:=zw.t;omega
  clear hx hS
  go_enter Tryz.func41,Tryz.ntmps41
  go_wp2_with (go_at_call 45;refine(gQ _).mono ?_;rintro e w' ⟨⟨u,rfl⟩,xh⟩;rw[xh];clear xh)
  refine pG 7 [some 16,some 17,some 18,some 19,some 20,some 21,some 22] (IK2 (sl bl i 2 yq) bl i nm x n) (λ_ _ _ _ h _=>h) ?step ?fin
  case step=>
   intro ii o m w' V H f j;have xj:=ctq f c0;have xk:=ctq f c1
   match ii,V with
   |1,_|2,_|4,_|5,_=>
    cases H
    simp[Region.binds,IK2]at j
    simp only[aD,Act.put,j];gi_wp2;exact⟨_,by simp[aH,j],rfl,br _ _⟩
   |0,_|3,_=>
    cases H
    gi_wp2;exact⟨_,uhx,rfl,br _ _⟩
   |6,_=>
    cases H
    simp[Region.binds,IK2]at j
    simp only[aD,Act.put,j];gi_wp2_with fail
    refine tqx ?_;refine(cw.2 (pZ x w')).mono ?_
    rintro e w5 ⟨⟨h0,rfl⟩|⟨h1,rfl⟩,zd⟩
    ·rw[yp.oQ]at h0 ⊢
     rw[zd];clear zd;gi_wp2;exact⟨_,by simp[aH,j],⟨rfl,h0⟩,br _ _⟩
    ·have HZ:Hid (oC s [nm,x]=(s,dR)):=yc.oQ (by rw[←yp.oQ];exact h1)
     rw[zd];clear zd h1;gi_wp2;exact⟨rfl,.inl ⟨HZ.oQ,rfl,f⟩⟩
   |q+7,h=>omega
  case fin=>
   intro m W f l;obtain⟨e6,xa⟩:=l 6 dz;have e2:m 2=.string nm:=l 2 dz;have HR:Hid (oC s [nm,x]=(s,nO s.b nm s.t n)):=xt.oQ xa;have yb:aG W (W.alloc (.cells #[.pointer none,ms] 60)):=aC (br _ _) _;have zf:=aI (aE f yb);have A:Hid (LO W.heap.size (ms) ⟨#[]⟩ (W.alloc (.cells #[.pointer none,ms] 60))):=⟨⟨none,.inl rfl,wnq W _⟩,⟨rfl,.inl ⟨rfl,rfl⟩⟩,by simp[Value.ownBlock]⟩;have N:=aI f.size;have B:Hid (W.heap.size<(W.alloc (.cells #[.pointer none,ms] 60)).heap.size):=by rw[Hid];simp
   clear l f yb xa;simp only[lds,ldz,aD,Act.put];rw[e2,e6];clear e2 e6;generalize m=m;gi_wp2_with fail
   go_upto_region 4 with fail
   obtain⟨T,hT⟩:=cI W.heap.size;obtain⟨W1,yv⟩:=cI (W.alloc (.cells #[.pointer none,ms] 60));rw[yv]at zf A B ⊢;rw[hT]at A N B ⊢;have xp:Hid (LO T (ms) ⟨#[]⟩ W1):=A.oQ;have zi:Hid (w.heap.size<=T):=N.oQ;have xw:Hid (T<W1.heap.size):=B.oQ;have Z:=M.oQ.zL zf.oQ;obtain⟨L,hL⟩:=cI (oX s.b nm s.t n);have HL:=aI hL;clear yv hT hL A N B;refine wpIn_wide.1 (wJ (F:=Fence.wide) (n:=0) kr 13 [some 23,some 24,some 25,some 26,some 27,some 28,some 29,some 30,some 31,some 32,some 33,some 34,some 35] rfl (IK4 S b nm (.slice ta (ln s.t) tc) n L (eV s.b nm s.t n L) W1.heap.size) IK4.zL kr ?step ?fin)
   case step=>
    intro ii o m w' V H f j;obtain⟨xj,xk,qd,qe⟩:=(Z.zL f).c
    match ii,V with
    |1,_|2,_|3,_|6,_|7,_|8,_=>
     cases H
     simp[Region.binds,IK4]at j
     simp only[aD,Act.put,j];gi_wp2;exact⟨_,by simp[aH,j],rfl,br _ _⟩
    |0,_|4,_|5,_|9,_|12,_=>
     cases H
     gi_wp2;exact⟨_,uhx,rfl,br _ _⟩
    |10,_=>
     cases H
     simp[Region.binds,IK4]at j
     simp only[aD,Act.put,j];gi_wp2_with fail
     refine tqx ?_;refine(cw.2 (TC (Z.zL f).b zw.b nm s.t ta tc n (Z.zL f).tb yl.oQ)).mono ?_;rintro e w5 ⟨⟨v5,rfl,D,zp⟩,z⟩;rw[HL.oQ]at D zp;have xv:=aI (D.weak f.size);have xu:=aI zp;clear D zp;gi_wp2;exact⟨_,by simp[aH,j],⟨xv.oQ,xu.oQ⟩,z⟩
    |11,_=>
     cases H
     obtain⟨D,_⟩:=Zq j 10;obtain⟨ao,cp,yr,_⟩:=D.xs;clear D j;simp only[aD,Act.put,yr];gi_wp2;exact⟨_,by simp[aH,yr],rfl,br _ _⟩
    |q+13,h=>omega
   case fin=>
    intro m w4 f l;obtain⟨zq,zn⟩:=l 10 dz;have ys:m 11=I (ln L):=l 11 dz;have yt:m 12=I 0:=l 12 dz;have zv:=zO zn;have hl3:=zn.len;have yi:=aI (aE zf.oQ f);have xq:=aI (xp.oQ.zL f);obtain⟨ao,cp,C,xi⟩:=zq.xs;have yo:=aI xi
    have yh:Hid (∀g i,ao=some (Y g i)->g≠T):=λg i e e2=>by
     rcases zq with⟨h,_⟩|⟨g',cap',h1,h2,_⟩
     ·rw[h]at C
      injection C with e3
      rw[←e3]at e
      cases e
     ·rw[h1]at C
      cases C
      cases e
      have:=xw.oQ;omega
    clear l f zq xi zn Z;simp only[aD,Act.put,sit,lcs,lcz,Nat.reduceAdd];rw[C,ys,yt];clear C ys yt;generalize m=m;gi_wp2_with fail
    go_wp2
    obtain⟨W4,hW4⟩:=bQ w4;have xm:Hid (LO T (ms) ((L.take 0).foldl nB ⟨#[]⟩) w4):=xq.oQ
    go_loopw [35] (λiv wr=>∃k:Nat,k<=ln L/\iv=I k/\∃bv:Va,Hid (LO T bv ((L.take k).foldl nB ⟨#[]⟩) wr)/\Hid (∀q,bv.ownBlock=some q->w4.heap.size<=q)/\Hid (aU (λr=>r=T) w4 wr)) (λiv _=>ln L-(intOf iv).toNat)
    case atStart=>exact⟨0,nz _,rfl,_,xm,λq hq=>by simp[Value.ownBlock]at hq,aU.refl _ _⟩
    case round=>
     obtain⟨k,hk,rfl,bv,HD,HV,HW⟩:=hrel;have zc:=xY (L.take k) (λp l=>⟨(zv p (lmt l)).2.1,(zv p (lmt l)).2.2.2⟩) ⟨#[]⟩;have ze:ln (L.take k)<=301:=by rw[llt];omega
     have xf:(ByteArray.mk #[]).size=0:=rfl;have zg:Hid (aG w wr):=HW.oQ.under yi.oQ (nlq _) (λk e=>by rw[e];exact zi.oQ)
     by_cases G:k<ln L
     ·have yz:(k:Int)<(ln L:Int):=om
      rcases yo.oQ with h|⟨g,i,yw,zt⟩
      ·rw[h]at G;simp at G
      have yg:=aI (yh.oQ g i yw);subst yw;have k0:wr.cell? (Y g (i+k*2))=some (I L[k].lo):=HW.oQ.cell yg.oQ (zt k G 0 _ rfl);have k1:wr.cell? (Y g (i+k*2+1))=some (I L[k].hi):=HW.oQ.cell yg.oQ (zt k G 1 _ rfl);obtain⟨xc,zx,xd,zy⟩:=zv _ (lgm G);have y:(L.take (k+1)).foldl nB ⟨#[]⟩=nB ((L.take k).foldl nB ⟨#[]⟩) L[k]:=by rw[tsa G,List.foldl_append];rfl
      obtain⟨s0,xe⟩:∃s,s=(L.take k).foldl nB ⟨#[]⟩:=⟨_,rfl⟩;obtain⟨p,l⟩:=bQ (L[k]);rw[←xe]at y zc HD;rw[←l]at y k0 k1 xc zx xd zy;clear xe l zt
      have qc:(qU p.lo p.hi).size<=4000003:=by
       have:=bD zx;have:=bD zy;have e1:WC.size=1:=rfl;simp only[qU,bsz,e1];omega
      have g1:¬9223372036854775807<(qU p.lo p.hi).size+1:=om
      have HT:Hid ((L.take (k+1)).foldl nB ⟨#[]⟩=s0++(qU p.lo p.hi++⟨#[32]⟩)):=by rw[Hid,y,nB,qU];simp only[ByteArray.append_assoc]
      have zk:Hid (s0.size+(qU p.lo p.hi++⟨#[32]⟩).size<=140737488355328):=by
       have e1:(ByteArray.mk #[32]).size=1:=rfl;rw[Hid,bsz,e1];omega
      obtain⟨ft,zu⟩:=bQ (qU p.lo p.hi);rw[←zu]at HT zk g1;obtain⟨st,xz⟩:=cI (ft++⟨#[32]⟩);rw[xz]at HT zk;have xr:=aI zu.symm;clear zu qc y zc ze xf;have zb:aG wr (wr.alloc (.cells #[I p.lo,I p.hi] 134)):=aC (br _ _) _;have q0:(wr.alloc (.cells #[I p.lo,I p.hi] 134)).cell? (ya wr 0)=some (I p.lo):=aB (wnq wr _) rfl;have q1:(wr.alloc (.cells #[I p.lo,I p.hi] 134)).cell? (ya wr 1)=some (I p.hi):=aB (wnq wr _) rfl;have yd:=aI (HD.oQ.zL zb);have yn:=aI (HW.oQ.trans (aU.below zb));have zm:zP (wr.alloc (.cells #[I p.lo,I p.hi] 134)):=M.oQ.e.zL (aE zg.oQ zb);clear HD HW zb;go_wp2_with fail
      refine(C9 p.lo p.hi _ zm xc zx xd zy).mono ?_;rintro e w5 ⟨rfl,z⟩;rw[xr.oQ];have ye:=aI (yd.oQ.zL z);have zj:=aI (yn.oQ.trans (aU.below z));have xl:=aI ((zm.zL z).s);clear z yd yn zm q0 q1 k0 k1;go_wp2_with fail
      refine(xU T bv s0 st w5 ye.oQ zk.oQ xl.oQ).mono ?_;rintro e w6 ⟨⟨zl,rfl,yu,xg⟩,yx⟩;have xn:Hid (LO T zl ((L.take (k+1)).foldl nB ⟨#[]⟩) w6):=by rw[Hid,HT.oQ];exact yu
      have xx:Hid (∀q,zl.ownBlock=some q->w4.heap.size<=q):=λq hq=>(xg q hq).elim (HV.oQ q) (λh=>nlt zj.oQ.size h);have xy:Hid (aU (λr=>r=T) w4 w6):=zj.oQ.past yx (λk e=>e.elim .inl (λe=>.inr (HV.oQ k e)));clear yu xg yx ye zj HT;go_wp2
      go_roundw
      case rel=>exact⟨k+1,om,gn,zl,xn,xx,xy⟩
      case measure=>simp[intOf];omega
     ·have yz:¬(k:Int)<(ln L:Int):=om
      have yy:L.take k=L:=ltl om;rw[yy]at zc ze HD;clear yy;obtain⟨O,zr⟩:=bQ (L.foldl nB ⟨#[]⟩);rw[←zr]at zc HD;have yj:=aI zr;have ym:Hid (∀q,bv.ownBlock=some q->w.heap.size<=q):=λq hq=>nlt yi.oQ.size (HV.oQ q hq);have za:=M.oQ.zL zg.oQ;obtain⟨oe,xb⟩:∃o,o=qO s.b nm s.t n:=⟨_,rfl⟩;have HO:=aI xb;clear xb zr yo HV HW
      go_upto_region 9 with fail
      refine pG 15 [some 48,some 49,some 50,some 51,some 52,some 53,some 54,some 55,some 56,some 57,some 58,some 47,some 59,some 60,some 10] (DB7 S b nm (.slice ta (ln s.t) tc) n oe (eG s.b nm s.t n oe)) (λ_ _ _ _ h _=>h) ?step ?fin
      case step=>
       intro ii o m w' V H f j;obtain⟨xj,xk,qd,qe⟩:=(za.zL f).c
       match ii,V with
       |1,_|2,_|3,_|6,_|7,_|8,_|11,_|12,_|13,_|14,_=>
        cases H
        simp[Region.binds,DB7]at j
        simp only[aD,Act.put,j];gi_wp2;exact⟨_,by simp[aH,j],rfl,br _ _⟩
       |0,_|4,_|5,_|9,_=>
        cases H
        gi_wp2;exact⟨_,uhx,rfl,br _ _⟩
       |10,_=>
        cases H
        simp[Region.binds,DB7]at j
        simp only[aD,Act.put,j];gi_wp2_with fail
        refine tqx ?_;refine(cw.2 (VJ (za.zL f).b zw.b nm s.t ta tc n (za.zL f).tb yl.oQ)).mono ?_;rintro e w5 ⟨⟨rfl,hE⟩,z⟩;rw[←HO.oQ]at hE;rw[←HO.oQ,JZ];have HE:=aI hE;clear hE;gi_wp2;exact⟨_,by simp[aH,j],⟨rfl,HE.oQ⟩,z⟩
       |q+15,h=>omega
      case fin=>
       intro m W f l;have HE:Hid (eG s.b nm s.t n oe):=(l 10 dz).2;have J:=aI (aE zg.oQ f);have yf:=aI (HD.oQ.zL f);clear f za
       cases oe with
       |none=>
        have P:m 13=.bool false:=l 13 dz;have Q:m 14=I 0:=l 14 dz;clear l;simp only[lds,ldz,aD,Act.put];rw[P,Q];clear P Q;generalize m=m;have zh:Hid (nO s.b nm s.t n=O++⟨#[110,101,118,101,114]⟩):=by rw[Hid,nO,←HO.oQ,HL.oQ,←yj.oQ];rfl
        have g1:¬9223372036854775807<O.size+5:=om
        gi_wp2_with fail
        go_wp2_with fail
        refine(DK yf.oQ w.heap.size zi.oQ ym.oQ J.oQ.size).mono ?_;rintro e w9 ⟨rfl,U⟩;have K:=aI (J.oQ.trans U);have X:=aI (M.oQ.zL K.oQ);clear U;go_wp2
        go_ret;exact .inr ⟨⟨F,b,_,by rw[HR.oQ];exact X.oQ,λk hk=>.inl hk⟩,by rw[HR.oQ,zh.oQ];rfl,aU.below K.oQ⟩
       |some d=>
        have P:m 13=.bool true:=l 13 dz;have Q:m 14=I d:=l 14 dz;clear l;simp only[lds,ldz,aD,Act.put];rw[P,Q];clear P Q;generalize m=m;obtain⟨qa,qb⟩:=IA HE.oQ;have zh:Hid (nO s.b nm s.t n=O++⟨#[102,114,101,101,32]⟩++dH d):=by rw[Hid,nO,←HO.oQ,HL.oQ,←yj.oQ];rfl
        have g1:¬9223372036854775807<O.size+5:=om
        have hds:=bD qb;have g2:¬9223372036854775807<O.size+5+(dH d).size:=om
        gi_wp2_with fail
        go_wp2_with fail
        refine(DK yf.oQ w.heap.size zi.oQ ym.oQ J.oQ.size).mono ?_;rintro e w9 ⟨rfl,U⟩;have K:=aI (J.oQ.trans U);have X:=aI (M.oQ.zL K.oQ);clear U J;go_wp2_with fail
        refine(wO d w9 X.oQ.e qa om).mono ?_;rintro e w10 ⟨rfl,R⟩;have zz:=aI (aE K.oQ R);have yk:=aI (X.oQ.zL R);clear R;go_wp2
        go_ret;exact .inr ⟨⟨F,b,_,by rw[HR.oQ];exact yk.oQ,λk hk=>.inl hk⟩,by rw[HR.oQ,zh.oQ];rfl,aU.below zz.oQ⟩
 ·have HR:Hid (oC s a=(s,dR)):=yA hl
  have hl':((ln a:Int)==2)=false:=by rw[bfn];omega
  clear hl
  go_enter Tryz.func41,Tryz.ntmps41
  go_wp2_with (go_at_call 45;refine(jU _).mono ?_;rintro e w' ⟨rfl,rfl⟩)
  exact⟨rfl,.inl ⟨HR.oQ,rfl,br _ _⟩⟩
