import Derived.Laws.Cover1
import Derived.Test.YtcdbcliaepcpfaaGreatDoorYh
import Derived.Test.YtcdbcliaepcpfaaGreatDoorZm
namespace Go.Proofs.YtcdbcliaepcpfaaGreatDoor
set_option maxRecDepth 100000
set_option maxHeartbeats 2000000
open Go.RowKit Go.BigFrame
theorem G6 (f:Fx)(p:Nat)(nm:ByteArray)(w:World)(b:w.cell? ⟨p,0,none⟩=some (.string nm)):
 aY 55 #[f.val,.pointer (some ⟨p,0,none⟩)] w λe w'=>e=.returned (.bool (!(fY f.n nm)))/\aF w w':=by
 have a:aF w (w.alloc (.cells #[.string f.n,.int .i64 f.x,.int .i64 f.y] 74)):=aB (br _ _) _;have k0:(w.alloc (.cells #[.string f.n,.int .i64 f.x,.int .i64 f.y] 74)).cell? ⟨w.heap.size,0,none⟩=some (.string f.n):=aJ (wnq w _) rfl;have k1:=(a.cell (aA b)).trans b;have c:Hid _:=a;clear a b;go_enter Tryz.func55,Tryz.ntmps55;go_wp2;go_ret;exact⟨rfl,c.oQ⟩
theorem QW (l:List Fx)(z:Option Addr)(s p:Nat)(nm:ByteArray)(w:World)(F:Xs 3 Fx.cells w z l)(hn:l.length<=64)(B:w.cell? ⟨p,0,none⟩=some (.string nm)):
 aY 54 #[.slice z l.length s,.func (.func 55) #[] #[.pointer (some ⟨p,0,none⟩)]] w λe w'=>((oJ l nm<l.length/\e=.returned (.int .i64 (oJ l nm)))∨(oJ l nm=l.length/\e=.returned (.int .i64 (-1))))/\aF w w':=by
 go_enter Tryz.func54,Tryz.ntmps54
 go_wp2
 go_loopw [8] (λu wr=>∃k:Nat,k<=l.length/\u=.int .i64 k/\Hid (∀j (h:j<l.length),j<k->fY l[j].n nm=true)/\aF w wr) (λu _=>l.length-(intOf u).toNat)
 case atStart=>exact⟨0,nz _,rfl,λj h A=>absurd A (by omega),br _ _⟩
 case round=>
  obtain⟨k,hk,rfl,q,o⟩:=hrel
  by_cases a:k<l.length
  ·have i:(k:Int)<(l.length:Int):=by omega
   rcases F.zL o with h|⟨g,c,t,b⟩
   ·rw[h]at a;simp at a
   subst t;have C:wr.cell? ⟨g,c+k*3,none⟩=some (.string l[k].n):=b k a 0 _ rfl;have D:wr.cell? ⟨g,c+k*3+1,none⟩=some (.int .i64 l[k].x):=b k a 1 _ rfl;have E:wr.cell? ⟨g,c+k*3+2,none⟩=some (.int .i64 l[k].y):=b k a 2 _ rfl;have m:=(o.cell (aA B)).trans B;obtain⟨x,hx⟩:=bP (l[k]);rw[←hx]at C D E;have v:=aG hx;clear hx b;go_wp2_with fail
   refine(G6 x p nm wr m).mono ?_;rintro e w2 ⟨rfl,f⟩;have d:=aG (aC o f);clear f C D E m
   cases hq:fY x.n nm with
   |true=>
    have r:Hid (∀j (h:j<l.length),j<k+1->fY l[j].n nm=true):=λj h A=>by
     by_cases e:j=k
     ·subst e;rw[←v.oQ];exact hq
     ·exact q.oQ j h (by omega)
    clear hq;go_wp2
    go_roundw
    case rel=>exact⟨k+1,by omega,by go_num,r,d.oQ⟩
    case measure=>simp[intOf];omega
   |false=>
    have HP:Hid (oJ l nm=k):=yN (by omega) q.oQ (λh=>by rw[←v.oQ];exact hq);clear hq;go_wp2
    go_ret;exact⟨.inl ⟨by rw[HP.oQ];exact a,by rw[HP.oQ];rfl⟩,d.oQ⟩
  ·have i:¬(k:Int)<(l.length:Int):=by omega
   have HP:Hid (oJ l nm=l.length):=yN (nlq _) (λj h _=>q.oQ j h (by omega)) (λh=>absurd h (by omega));go_wp2
   go_ret;exact⟨.inr ⟨HP.oQ,rfl⟩,o⟩
set_option maxHeartbeats 16000000
theorem VT (l:List Fx)(nm:ByteArray):oJ l nm<=l.length:=(List.takeWhile_sublist _).length_le
theorem VD {α:Type}{t sz:Nat}{c:α->List Value}{w:World}{z:Nat}{b:Option Addr}{n a:Nat}{l:List α}(h:bQ t sz c w z (.slice b n a) l):∀q,b.map Addr.block=some q->z<=q:=λq d=>by
 rcases h with⟨e,_⟩|⟨g,_,e,f,_⟩;·cases e;cases d
 ·cases e;cases d;exact f
theorem KK {w:World}{z:Nat}{v:Value}{l:List Fx}(h:bQ 74 3 Fx.cells w z v l):∃a c,v=.slice a l.length c/\Xs 3 Fx.cells w a l:=by
 obtain⟨a,c,e⟩:=h.slice;subst e;exact⟨a,c,rfl,h.xs Fx.cells_length⟩
theorem DU {w:World}{z:Nat}{a:Option Addr}{n c:Nat}{l:List Fx}(h:bQ 74 3 Fx.cells w z (.slice a n c) l):l.length<=c:=by
 rcases h with⟨e,rfl⟩|⟨g,_,e,_,b,_⟩;·exact nz _
 ·cases e;exact b
theorem kT.putF {F:Nat->Prop} {S:Nat} {w:World} {s:St} {b:Bk} {v:Value} (h:kT F S w s b v) (y:Fx) {z a c:_} (x:∀q,F q->q<z) (u:bQ 74 3 Fx.cells w z (.slice a (gU b.fl y).length c) (gU b.fl y)) (m:c<=9223372036854775807):
 kT (λq=>F q∨(z<=q/\q<w.heap.size)) S (f8 w S ⟨b.now,a,gU b.fl y,c,b.ha,b.hl,b.hc⟩) ⟨gH s.b y,s.t⟩ ⟨b.now,a,gU b.fl y,c,b.ha,b.hl,b.hc⟩ v:=by
 have f:=dC w S ⟨b.now,a,gU b.fl y,c,b.ha,b.hl,b.hc⟩;have n:(f8 w S ⟨b.now,a,gU b.fl y,c,b.ha,b.hl,b.hc⟩).heap.size=w.heap.size:=by simp[f8,World.setCell]
 have l:=x S h.fS;refine⟨aO (aO (aO h.o 0 _) 1 _) 2 _,i6 h.h (λk cs _ m=>f.block k (gT m) (λe=>?_)),⟨⟨h.b.c.now,by show gU b.fl y=gU s.b.fl y;rw[h.b.c.fl],h.b.c.lk⟩,λp j=>?_,DU u,m⟩,.inl h.fS,λk d=>.inl (h.fh k d),λk d=>?_,h.e.but f (λk e=>by rw[e];exact(h.fl S h.fS).1)⟩
 ·have A:k=S:=e;subst A;rw[h.o]at m;simp at m
 ·have B:aT (λk=>k<z) w (f8 w S ⟨b.now,a,gU b.fl y,c,b.ha,b.hl,b.hc⟩):=f.wide (λk e=>by rw[e];exact l)
  have C:aT (λk=>k<z) w p:=B.trans ⟨j.os,j.tape,j.output,j.size,λk d D=>j.block k d (λe=>D (by
   rcases e with rfl|e|e;·exact l
   ·exact x k (h.fh k e)
   ·rcases Nat.lt_or_ge k z with g|g;·exact g
    ·exact absurd (.inr ⟨g,by rw[←n];exact d⟩) e))⟩
  have r:aT (λk=>k=S∨v.ownBlock=some k∨¬F k) w p:=(f.wide (λk e=>.inl e)).trans (j.wide (λk e=>e.elim .inl (λe=>.inr (e.elim .inl (λe=>.inr (λg=>e (.inl g)))))));obtain⟨ao',c',e,hx⟩:=KK (u.but C (λk e=>e));cases e;exact⟨hx,(h.b.i p r).h,(h.b.i p r).i⟩
 ·rw[n];rcases d with d|d;·exact h.fl k d
  ·exact⟨by have:=(h.fl S h.fS).1;omega,d.2⟩
theorem Z6 {d:List ByteArray}(h:d.length=3):∃a b c,d=[a,b,c]:=by
 match d,h with
 |[a,b,c],_=>exact⟨a,b,c,rfl⟩
def WF (vw:Value)(bl off:Nat)(nm:ByteArray)(vx:Value)(NL:List Int)(GD:Prop)(Z:Nat)(j:Nat)(v:Value)(w:World):Prop:=
 match j with
 |0|3=>v=vw
 |1=>v=.pointer (some ⟨bl,off,none⟩)
 |2=>v=.string nm
 |4=>v=vx
 |5=>(∃a c,v=.slice a 2 c/\∀w',VC w w'->Xs 1 eW w' a NL)/\GD
 |6=>∃p,v=.pointer (some ⟨p,0,none⟩)/\Z<=p/\w.heap[p]?=some (.cells #[.string ⟨#[]⟩] 9)
 |_=>True
theorem WF.zL {m:Value}{k b:Nat}{nm:ByteArray}{n:Value}{i:List Int}{h:Prop}{Z:Nat}(j:Nat)(v:Value)(w w':World)(d:WF m k b nm n i h Z j v w)(l:aF w w'):WF m k b nm n i h Z j v w':=by
 unfold WF at*;split at d
 all_goals first
  |exact d
  |(obtain⟨⟨a,c,e,f⟩,g⟩:=d;exact⟨⟨a,c,e,λq o=>f q (o.from l)⟩,g⟩)
  |(obtain⟨p,e,f,g⟩:=d;exact⟨p,e,f,bJ g l⟩)
def VW (S:Nat)(b:Bk)(k:Nat)(y:Fx)(vn:Value)(g oo:Nat)(Z:Nat)(j:Nat)(v:Value)(w:World):Prop:=
 match j with
 |0|1|2=>v=.pointer (some ⟨S,0,none⟩)
 |3=>v=.pointer (some ⟨S,1,none⟩)
 |4=>v=.slice b.fa b.fl.length b.fc
 |5=>bQ 74 3 Fx.cells w Z v b.fl/\mZ v
 |6=>v=.int .i64 k
 |7=>v=.string y.n
 |8|11=>v=vn
 |9=>v=.pointer (some ⟨g,oo,none⟩)
 |10=>v=.int .i64 y.x
 |12=>v=.pointer (some ⟨g,oo+1,none⟩)
 |13=>v=.int .i64 y.y
 |14=>v=y.val
 |15=>∃p,v=.slice (some ⟨p,0,none⟩) 1 1/\w.heap[p]?=some (.cells #[.string y.n,.int .i64 y.x,.int .i64 y.y] 74)
 |_=>True
theorem VW.zL {S:Nat}{b:Bk}{k:Nat}{y:Fx}{e:Value}{g d:Nat}{Z:Nat}(j:Nat)(v:Value)(w w':World)(a:VW S b k y e g d Z j v w)(c:aF w w'):VW S b k y e g d Z j v w':=by
 unfold VW at*;split at a
 all_goals first
  |exact a
  |(exact⟨a.1.zL c,a.2⟩)
  |(obtain⟨p,f,h⟩:=a;exact⟨p,f,bJ h c⟩)
theorem LD (F:Nat->Prop)(S:Nat)(w:World)(s:St)(b:Bk)(v:Value)(hS:kT F S w s b v)(kk:Nat)(xl:iP kk s)(a:List ByteArray)(ao:Option Addr)(p:Nat)(hX:Xs 1 dS w ao a)(xh:a.length<=p)(xm:∀x∈a,x.size<=1048575):
 aY 25 #[.pointer (some ⟨S,0,none⟩),.slice ao a.length p] w λe w'=>UW F S w s (fT s a) e w':=by
 by_cases hl:a.length=3
 ·obtain⟨nm,xw,yw,J⟩:=Z6 hl
  obtain⟨bl,m,rfl⟩:∃bl m,ao=some ⟨bl,m,none⟩:=by
   rcases hX with h|⟨bl,m,e,_⟩
   ·rw[h]at hl;simp at hl
   ·exact⟨bl,m,e⟩
  have xc:Xs 1 dS w (some ⟨bl,m+1,none⟩) [xw,yw]:=i7 hX 1 [nm] _ [] (by rw[J];rfl) rfl;have c0:=gO hX 0 nm (by rw[J];rfl);rw[Nat.add_zero]at c0;have xj:nm.size<=1048575:=xm nm (by rw[J];simp);obtain⟨i1,zw⟩:∃i,i=aV xw:=⟨_,rfl⟩;obtain⟨i2,zx⟩:∃i,i=aV yw:=⟨_,rfl⟩;obtain⟨y,hy⟩:=bP (⟨nm,i1,i2⟩:Fx);have yu:Hid (y.n=nm):=by rw[Hid,hy]
  have qc:Hid (y.x=i1):=by rw[Hid,hy]
  have qd:Hid (y.y=i2):=by rw[Hid,hy]
  have qe:Hid (y.n.size<=1048575):=by rw[Hid,yu.oQ];exact xj
  have ym:Hid (jG [xw,yw]=true->fT s a=if aN (gH s.b y)then(⟨gH s.b y,s.t⟩,SE)else(s,WT)):=λh=>by rw[J,fT,if_pos h,hy,zw,zx]
  have zi:Hid (jG [xw,yw]=false->fT s a=(s,cX)):=λh=>by rw[J,fT,h];rfl
  have yq:Hid (aS [xw,yw]=[i1,i2]):=by rw[Hid,zw,zx];rfl
  obtain⟨GD,W⟩:∃GD:Prop,GD=(jG [xw,yw]=true):=⟨_,rfl⟩;have zp:Hid (GD↔jG [xw,yw]=true):=by rw[Hid,W]
  have zu:=aG hS;have yc:=EN (hS.b.book.trans xl.b);have L:=aG yc.1;have xo:Hid (b.fl.length<=1048576):=by rw[Hid];omega
  have yl:=aG yc.2;rw[hl]at xh ⊢;clear J hX xm hl hy zw zx W yc xj
  go_enter Tryz.func25,Tryz.ntmps25
  go_wp2_with (go_at_call 36;refine(gD _).mono ?_;rintro e w' ⟨⟨u,rfl⟩,xn⟩;rw[xn];clear xn)
  refine pG 7 [some 13,some 14,some 15,some 16,some 17,some 18,some 5] (WF (.slice (some ⟨bl,m,none⟩) 3 p) bl m nm (.slice (some ⟨bl,m+1,none⟩) 2 (p-1)) [i1,i2] GD w.heap.size) WF.zL ?step ?fin
  case step=>
   intro ii o vs w' yg z l A;have qg:=(l.cell (aA c0)).trans c0
   match ii,yg with
   |1,_|2,_|4,_=>
    simp at z;subst z
    simp[Region.binds,WF]at A
    simp only[aE,Act.put,A];gi_wp2;exact⟨_,by simp[aH,A],rfl,br _ _⟩
   |0,_|3,_=>
    simp at z;subst z;simp only[aE,Act.put];gi_wp2;exact⟨_,by simp[aH],rfl,br _ _⟩
   |5,_=>
    simp at z;subst z
    simp[Region.binds,WF]at A
    simp only[aE,Act.put,A];gi_wp2_with fail
    refine⟨trivial,rfl,?_⟩;refine(cw.2 (jM [xw,yw] (some ⟨bl,m+1,none⟩) (p-1) w' (xc.zL l) (by simp))).mono ?_
    rintro e w5 ⟨⟨zm,v5,rfl,xk⟩|⟨zl,rfl⟩,Y⟩
    ·have HG:Hid GD:=zp.oQ.2 (o9 zm)
     obtain⟨a5,c5,e5,I⟩:=DS (eC [xw,yw]).symm xk;rw[yq.oQ]at e5 I;subst e5;have xr:=aG I;clear I xk zm;gi_wp2;exact⟨.slice a5 2 c5,by simp[aH,A],⟨⟨a5,c5,rfl,xr.oQ⟩,HG.oQ⟩,Y⟩
    ·have HZ:=aG (zi.oQ (qO zl))
     have xz:=aG (aC l Y);clear zl Y;gi_wp2;exact⟨rfl,.inl ⟨HZ.oQ,rfl,xz.oQ⟩⟩
   |6,_=>
    simp at z;subst z;simp only[aE,Act.put];gi_wp2;exact⟨_,by simp[aH],⟨_,rfl,l.size,wnq w' _⟩,aB (br _ _) _⟩
   |q+7,h=>exact absurd h (by omega)
  case fin=>
   intro vs w8 l hp;obtain⟨⟨a5,c5,e5,I⟩,W⟩:=hp 5 (by decide);have e2:vs 2=.string nm:=hp 2 (by decide);obtain⟨P,e6,hP,X⟩:=hp 6 (by decide);have yd:aT (λr=>r=P) w8 (w8.setCell ⟨P,0,none⟩ (.string nm)):=(aT.refl (λr=>r=P) w8).set (g:=P) rfl _ _
   have xd:Xs 1 eW (w8.setCell ⟨P,0,none⟩ (.string nm)) a5 [i1,i2]:=I _ (λk c t ht hc=>yd.block k (gT hc) (λe=>by
    have e':k=P:=e;rw[e',X]at hc
    cases hc
    simp at ht))
   have yn:=aG (ym.oQ (zp.oQ.1 W));have Q:Hid (aF w (w8.setCell ⟨P,0,none⟩ (.string nm))):=yd.under l (nlq _) (λk e=>by rw[e];exact hP);have zz:(w8.setCell ⟨P,0,none⟩ (.string nm)).heap[P]?=some (.cells #[.string nm] 9):=aO X 0 _;have t0:w8.cell? ⟨P,0,none⟩=some (.string ⟨#[]⟩):=aJ X rfl;have tf:=iQ X;clear hp l I W X yd ym zp yq zi xc c0 hS;simp only[lds,List.drop_zero,aE,Act.put];rw[e2,e5,e6];clear e2 e5 e6;generalize vs=vs;gi_wp2_with fail
   go_upto_region 3 with fail
   obtain⟨W2,xa⟩:=cK (w8.setCell ⟨P,0,none⟩ (.string nm));rw[xa]at xd Q zz ⊢;clear xa t0 tf;have zs:=aG Q.oQ;have p0:W2.cell? ⟨P,0,none⟩=some (.string y.n):=by rw[yu.oQ];exact aJ zz rfl
   rcases xd with h|⟨g,oo,rfl,ye⟩
   ·cases h
   have j0:W2.cell? ⟨g,oo,none⟩=some (.int .i64 y.x):=by have:=ye 0 (by simp) 0 _ rfl;rw[qc.oQ];simpa using this
   have j1:W2.cell? ⟨g,oo+1,none⟩=some (.int .i64 y.y):=by have:=ye 1 (by simp) 0 _ rfl;rw[qd.oQ];simpa using this
   have zg:=zu.oQ.zL zs.oQ;obtain⟨x0,x1,x2,x3⟩:=zg.c;clear ye zz Q;have hmf:∀(fn:Fn) (first p:Array Value) (w:World),(Instr.makeFunc fn first p).run Tryz.prog w=.ok (.func fn first p) w:=λ_ _ _ _=>rfl;go_wp2_with fail
   refine(QW b.fl b.fa b.fc P y.n W2 zg.b.inn.f (by have:=L.oQ;omega) p0).mono ?_;rintro e w3 ⟨xi,H⟩
   obtain⟨r,rfl,hr⟩:∃r:Int,e=.returned (.int .i64 r)/\((0<=r/\r=(oJ b.fl y.n:Int))∨(r<0/\oJ b.fl y.n=b.fl.length)):=by
    rcases xi with⟨_,h⟩|⟨h1,h⟩
    ·exact⟨_,h,.inl ⟨by omega,rfl⟩⟩
    ·exact⟨_,h,.inr ⟨by omega,h1⟩⟩
   have qa:=aG hr;have yp:=aG (aC zs.oQ H)
   replace p0:=(H.cell (aA p0)).trans p0
   replace j0:=(H.cell (aA j0)).trans j0
   replace j1:=(H.cell (aA j1)).trans j1
   obtain⟨x0,x1,x2,x3⟩:=(zg.zL H).c;clear xi hr H zg zs
   go_upto_if 27 with fail
   go_cut [7] (λv7 wx=>v7=.int .i64 (oJ b.fl y.n)/\wx=w3)
   case first=>
    rcases qa.oQ with⟨h0,rfl⟩|⟨h0,h1⟩
    ·have hd0:¬((oJ b.fl y.n:Int)<0):=by omega
     go_wp2
     go_meet
     exact⟨rfl,rfl⟩
    ·have H1:=aG h1
     clear h1;go_wp2
     go_meet
     exact⟨by rw[H1.oQ],rfl⟩
   case rest=>
    obtain⟨rfl,rfl⟩:=hcut;have zb:Hid ((wc.alloc b.obj).heap[wc.heap.size]?=some b.obj):=wnq wc _;have za:aF wc (wc.alloc b.obj):=aB (br _ _) _;have R:=aG (aC yp.oQ za);have O:=aG yp.oQ.size;have C:Hid (wc.heap.size<(wc.alloc b.obj).heap.size):=by rw[Hid];simp
    replace j0:=(za.cell (aA j0)).trans j0
    replace j1:=(za.cell (aA j1)).trans j1
    replace p0:=(za.cell (aA p0)).trans p0
    clear za
    go_upto_region 7 with fail
    obtain⟨M,hM⟩:=cK wc.heap.size;obtain⟨W6,zh⟩:=cK (wc.alloc b.obj);rw[zh]at zb R C j0 j1 p0;rw[hM]at zb O C
    first|rw[zh,hM]|(have zk:=zh;simp only[Bk.obj]at zk;rw[zk,hM])
    have HM:=aG zb.oQ;have zd:=aG R.oQ;have xu:=aG O.oQ;have xv:=aG C.oQ;have ya:=zu.oQ.zL zd.oQ;have xp:Hid (∀q,F q->q<W6.heap.size):=λq hq=>(ya.fl q hq).2;obtain⟨k,hk⟩:=bP (oJ b.fl y.n);have HK:Hid (k<=b.fl.length):=by rw[Hid,hk];exact VT _ _
    have N:Hid (gU b.fl y=b.fl.take k++y::b.fl.drop k):=by rw[Hid,gU,←hk]
    have zq:Hid ((gU b.fl y).length=b.fl.length+1):=by rw[Hid,N.oQ];have:=HK.oQ;simp;omega
    have qb:Hid (∀f∈gU b.fl y,f.n.size<=9223372036854775807):=λf hf=>by
     rw[N.oQ]at hf
     rcases lma.1 hf with h|h
     ·have:=yl.oQ f (List.mem_of_mem_take h);omega
     ·rcases List.mem_cons.1 h with rfl|h
      ·have:=qe.oQ;omega
      ·have:=yl.oQ f (List.mem_of_mem_drop h);omega
    rw[←hk];clear hk zh hM zb R O C;refine pG 16 [some 38,some 39,some 40,some 41,some 42,some 43,some 44,some 45,some 46,some 47,some 48,some 49,some 50,some 51,some 52,some 53] (VW S b k y (.slice (some ⟨g,oo,none⟩) 2 c5) g oo W6.heap.size) VW.zL ?step ?fin
    case step=>
     intro ii o vs w' yg z l A;obtain⟨qg,z1z,z2z,z3z⟩:=(ya.zL l).c;have q0q:=(l.cell (aA p0)).trans p0;have j0j:=(l.cell (aA j0)).trans j0;have j1j:=(l.cell (aA j1)).trans j1
     match ii,yg with
     |1,_|2,_|3,_|4,_|9,_|10,_|12,_|13,_|14,_=>
      simp at z;subst z
      simp[Region.binds,VW]at A
      simp only[aE,Act.put,A];gi_wp2;exact⟨_,by simp[aH,A],rfl,br _ _⟩
     |0,_|6,_|7,_|8,_|11,_=>
      simp at z;subst z;simp only[aE,Act.put];gi_wp2;exact⟨_,by simp[aH],rfl,br _ _⟩
     |5,_=>
      simp at z;subst z
      simp[Region.binds,VW]at A
      simp only[aE,Act.put,A];gi_wp2_with fail
      refine⟨trivial,rfl,?_⟩;refine(cw.2 (y8 b.fl b.fa b.fc w' (ya.zL l).b.inn.f xo.oQ)).mono ?_;rintro e w5 ⟨⟨v5,rfl,B,xf⟩,Y⟩;have T:=aG (B.weak l.size);have zo:=aG xf;clear B xf;gi_wp2;exact⟨_,by simp[aH,A],⟨T.oQ,zo.oQ⟩,Y⟩
     |15,_=>
      simp at z;subst z
      simp[Region.binds,VW]at A
      simp only[aE,Act.put,A];gi_wp2;exact⟨_,by simp[aH,A],⟨_,rfl,wnq w' _⟩,aB (br _ _) _⟩
     |q+16,h=>exact absurd h (by omega)
    case fin=>
     intro vs w8 l hp;obtain⟨B,zy⟩:=hp 5 (by decide);have e6:vs 6=.int .i64 k:=hp 6 (by decide);obtain⟨V,yx,hV⟩:=hp 15 (by decide);obtain⟨qf,yy,e5⟩:=B.slice;rw[e5]at B zy;have xx:=aG (aC zd.oQ l);have xs:=aG (bJ HM.oQ l);have yv:=aG l.size;have T:=aG B;have zo:Hid (yy<=maxLen):=zy _ _ _ rfl;have yt:=aG hV;have yi:=aG l;clear hp l B zy hV;simp only[lds,List.drop_zero,aE,Act.put];rw[e5,e6,yx];clear e5 e6 yx;generalize vs=vs;gi_wp2_with fail
     refine⟨trivial,rfl,?_⟩;refine(cw.2 (I3 W6.heap.size b.fl qf yy k V y w8 T.oQ zo.oQ HK.oQ (by have:=L.oQ;omega) yt.oQ yv.oQ)).mono ?_;rintro e w9 ⟨a9,U,rfl,yz,xg,xe⟩;have Z:aF W6 w9:=xe.under yi.oQ (nlq _) (λq hq=>VD T.oQ q hq);have zc:w9.heap[M]?=some b.obj:=bJ HM.oQ Z;have xy:=aG (aC zd.oQ Z);have yb:aT (λq=>q=M) w9 (w9.setCell ⟨M,1,none⟩ (.slice a9 (b.fl.length+1) U)):=(aT.refl (λq=>q=M) w9).set (g:=M) rfl _ _;have ze:Hid (aF w (w9.setCell ⟨M,1,none⟩ (.slice a9 (b.fl.length+1) U))):=yb.under xy.oQ (nlq _) (λq e=>by rw[e];exact xu.oQ);have zr:Hid ((w9.setCell ⟨M,1,none⟩ (.slice a9 (b.fl.length+1) U)).heap[M]?=some (.cells #[.int .i64 b.now,.slice a9 (b.fl.length+1) U,.slice b.ha b.hl.length b.hc] 30)):=aO zc 1 _;have zt:Hid (bQ 74 3 Fx.cells (w9.setCell ⟨M,1,none⟩ (.slice a9 (b.fl.length+1) U)) W6.heap.size (.slice a9 (b.fl.length+1) U) (b.fl.take k++y::b.fl.drop k)):=yz.but yb (λq e=>by rw[e];exact xv.oQ);obtain⟨m0,m1,m2⟩:=aM zc;have mf:∀i,w9.frozen? ⟨M,i,none⟩=false:=λi=>by simp[World.frozen?,zc,Bk.obj]
     have yk:Hid (U<=9223372036854775807):=by unfold maxLen at xg;rw[Hid];omega
     clear yz xg xe Z zc yb xs T yt yi xx yv;gi_wp2_with fail
     go_upto_region 8 with fail
     obtain⟨W9,xb⟩:=cK (w9.setCell ⟨M,1,none⟩ (.slice a9 (b.fl.length+1) U));rw[xb]at ze zr zt ⊢;clear xb m0 m1 m2 mf;have G:=zu.oQ.zL ze.oQ;obtain⟨b',j⟩:=bP (⟨b.now,a9,gU b.fl y,U,b.ha,b.hl,b.hc⟩:Bk);have zf:Hid (bQ 74 3 Fx.cells W9 W6.heap.size (.slice b'.fa b'.fl.length b'.fc) b'.fl):=by rw[Hid,j];show bQ _ _ _ _ _ (.slice a9 (gU b.fl y).length U) (gU b.fl y);rw[zq.oQ,N.oQ];exact zt.oQ
     have xt:Hid (W9.heap[M]?=some b'.obj):=by rw[Hid,j];show W9.heap[M]?=some (Obj.cells #[.int .i64 b.now,.slice a9 (gU b.fl y).length U,.slice b.ha b.hl.length b.hc] 30);rw[zq.oQ];exact zr.oQ
     have zn:=aG (j)
     have E:iW W9 b':=by
      have ha:=G.b.asks xl.b;obtain⟨ao',c',e,hx⟩:=KK zf.oQ
      cases e
      refine⟨hx,?_,DU zf.oQ,?_,?_,?_,?_,?_⟩
      ·have:=L.oQ;have:=zq.oQ;rw[j];show(gU b.fl y).length<=_;omega
      ·rw[j];exact yk.oQ
      ·rw[j];exact qb.oQ
      ·rw[j];exact ha.hh
      ·rw[j];exact ha.hnh
      ·rw[j];exact ha.hgood
     have yj:Hid (aN b'=aN (gH s.b y)):=by rw[Hid,j];exact oX (b:=gH s.b y) G.b.c.now (by show gU b.fl y=gU s.b.fl y;rw[G.b.c.fl]) G.b.c.lk
     obtain⟨m0,m1,m2⟩:=aM xt.oQ;have zv:=aG G;clear j zt zr G
     cases hbk:aN (gH s.b y)with
     |false=>
      have HR:Hid (fT s a=(s,WT)):=by rw[Hid,yn.oQ,hbk];rfl
      go_wp2_with fail
      refine(tG E false (by rw[yj.oQ];exact hbk)).mono ?_;rintro e K ⟨rfl,d⟩;have ys:=aG (zv.oQ.zL d);have yo:=aG (aC ze.oQ d);clear d E hbk;go_wp2
      go_ret;exact .inr ⟨⟨F,b,v,by rw[HR.oQ];exact ys.oQ,λq hq=>.inl hq⟩,by rw[HR.oQ];rfl,aT.below yo.oQ⟩
     |true=>
      have HR:Hid (fT s a=(⟨gH s.b y,s.t⟩,SE)):=by rw[Hid,yn.oQ,hbk];rfl
      go_wp2_with fail
      refine(tG E true (by rw[yj.oQ];exact hbk)).mono ?_;rintro e K ⟨rfl,d⟩;have D:=zv.oQ.zL d;obtain⟨y0,y1,y2,y3⟩:=D.c;have yf:=D.fz
      replace m0:=(d.cell (aA m0)).trans m0
      replace m1:=(d.cell (aA m1)).trans m1
      replace m2:=(d.cell (aA m2)).trans m2
      have yr:Hid (kT (λq=>F q∨(W6.heap.size<=q/\q<K.heap.size)) S (f8 K S b') ⟨gH s.b y,s.t⟩ b' v):=by
       have zj:=zf.oQ.zL d;rw[zn.oQ]at zj;rw[Hid,zn.oQ];exact D.putF y xp.oQ zj yk.oQ
      have xq:Hid (∀q,(F q∨(W6.heap.size<=q/\q<K.heap.size))->F q∨w.heap.size<=q):=λq hq=>hq.elim .inl (λh=>.inr (Nat.le_trans zd.oQ.size h.1));have yh:Hid (aT F w (f8 K S b')):=(aT.below (aC ze.oQ d)).trans ((dC K S b').wide (λq e=>by rw[e];exact zv.oQ.fS));clear d E hbk D zf zn;go_wp2
      go_ret;exact .inr ⟨⟨_,b',v,by rw[HR.oQ];exact yr.oQ,xq.oQ⟩,by rw[HR.oQ];rfl,yh.oQ⟩
 ·have HR:Hid (fT s a=(s,cX)):=s9 hl
  have hl':((a.length:Int)==3)=false:=by rw[beq_eq_false_iff_ne];omega
  clear hl
  go_enter Tryz.func25,Tryz.ntmps25
  go_wp2_with (go_at_call 36;refine(jD _).mono ?_;rintro e w' ⟨rfl,rfl⟩)
  exact⟨rfl,.inl ⟨HR.oQ,rfl,br _ _⟩⟩
end Go.Proofs.YtcdbcliaepcpfaaGreatDoor
