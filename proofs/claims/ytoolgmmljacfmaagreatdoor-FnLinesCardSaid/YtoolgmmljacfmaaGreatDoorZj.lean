import Derived.Test.YtoolgmmljacfmaaGreatDoorZe
import Derived.Test.YtoolgmmljacfmaaGreatDoorYg
set_option maxRecDepth 100000
set_option maxHeartbeats 16000000
open List renaming length → ln
open Go.RowKit
namespace Go.Proofs.YtoolgmmljacfmaaGreatDoor
open Go.BigFrame
variable {S F:Nat → Prop}{w:Wd}{s b:Bk}{x d X:Wx}{n B r i g D t Z:Nat}{k:St}{v G W:Va}{l o:List Int}{m Q q:List Ba}{nm C:Ba}{u y z A J:Int}{K:List (List Cx)}
theorem UJ (l:3<w.heap.size)(u:l8 w)(h:eI S w s b)(m:aO s=true)(hx:iL w d)(y:rK x d):
 aW 77 #[b.val,d.val] w λe w'=>(∃b',e=rt (.tuple #[Bk.val b',iA s (decide (0<=kK s.hl x.n)) x,I (dF s x)])/\K8 s.now s.fl (eY s x) b'/\dS w.heap.size w' b')/\aG w w':=by
 have ha:=h.asks m;refine(IM b d w l u ha.hf ha.hnf ha.hcap ha.hc2 ha.hs ha.hh ha.hnh ha.hgood hx).mono ?_;rintro e w' ⟨t,j⟩;refine⟨?_,j⟩;obtain⟨z,A,o⟩:=FV (b:=s) (b1:=b) h.c.now h.c.fl h.c.lk d;obtain⟨B,C,D⟩:=FT y s;rcases t with⟨a,_⟩|⟨a,b1,i,f,g,c,k,⟨rfl,p,q,r⟩,rfl,v⟩;·rw[h.book,m]at a;cases a
 ·obtain⟨q1,F,G⟩:=UM d a k;exact⟨g,by rw[q1,F,z,A,B,C],⟨(p.trans k.now).trans h.c.now,(q.trans k.fl).trans h.c.fl,by rw[D]at o;exact(o.trans G).trans r⟩,v.spS⟩
theorem lH.same (h:lH F n w k b v):lH F n w ⟨dN k.b k.b.now k.b.hl,k.t⟩ b v:=⟨h.o,h.h,⟨h.b.c,h.b.i,h.b.f1,h.b.f2⟩,h.fS,h.fh,h.fl,h.e⟩
theorem FL (b:n=ln l)(h:w.ownsRow B 3 1 v n (l.map (Value.int .i64))):∃a c,v=.slice a (ln l) c/\∀w',KpW w w'->Xs 1 dV w' a l:=by
 obtain⟨a,c,e,_⟩:=pW b h;refine⟨a,c,e,λw' i=>?_⟩;obtain⟨a',c',f,hx⟩:=pW b (jI h (λk d _ g=>i k d _ (.inr (.inr rfl)) g));cases e.symm.trans f;exact hx
theorem ws8 (h:8<=ln m):∃nm q c f a l b y e,m=nm::q::c::f::a::l::b::y::e:=by
 match m,h with
 |nm::q::c::f::a::l::b::y::e,_=>exact⟨nm,q,c,f,a,l,b,y,e,rfl⟩
def IS3 (vw vn:Value)(bl off g oo:Nat)(nm lv:ByteArray)(i1 i2 i3 i4 i5:Int)(Q:List ByteArray)(NL:List Int)(YY:List ByteArray)(cy:Nat)(cs:List (List Cx))(X:Wx)(GL GW:Prop)(Z:Nat)(j:Nat)(v:Value)(w:World):Prop:=
 match j with
 |0|18|23=>v=vw
 |3|6|9|12|15=>v=vn
 |1=>v=(E bl off)
 |2=>v=.string nm
 |4=>v=(E g oo)
 |5=>v=I i1
 |7=>v=(E g (oo+1))
 |8=>v=I i2
 |10=>v=(E g (oo+2))
 |11=>v=I i3
 |13=>v=(E g (oo+3))
 |14=>v=I i4
 |16=>v=(E g (oo+4))
 |17=>v=I i5
 |19=>v=(E bl (off+6))
 |20=>v=.string lv
 |21=>∃p,v=.slice (some (Y p 0)) Q.length Q.length/\Xs 1 eE w (some (Y p 0)) Q
 |22=>(∃a c,v=.slice a NL.length c/\∀w',KpW w w'->Xs 1 dV w' a NL)/\GL
 |24=>v=.slice (some (Y bl (off+7))) YY.length cy
 |25=>AS w v cs/\GW
 |26=>(∃x:Wx,v=x.val/\(∀w',KpW w w'->iL w' x)/\rK X x)/\GL/\GW
 |27=>∃p,v=(E p 0)/\Z<=p/\w.heap[p]?=some (.cells #[.string ⟨#[]⟩,I 0,I 0,I 0,I 0,I 0,ms,ms] 40)
 |_=>True
theorem IS3.zL {m n:Prop}(j:Nat)(v:Va)(w w':Wd)(b:IS3 G W r i g D nm C u y z A J Q o q t K X m n Z j v w)(h:aG w w'):IS3 G W r i g D nm C u y z A J Q o q t K X m n Z j v w':=by
 unfold IS3 at*;split at b
 all_goals first
  |exact b
  |(obtain⟨p,d,e⟩:=b;exact⟨p,d,e.zL h⟩)
  |(obtain⟨⟨a,c,d,e⟩,f⟩:=b;exact⟨⟨a,c,d,λl k=>e l (k.from h)⟩,f⟩)
  |(exact⟨b.1.zL h,b.2⟩)
  |(obtain⟨⟨x,d,e,H⟩,f⟩:=b;exact⟨⟨x,d,λl k=>e l (k.from h),H⟩,f⟩)
  |(obtain⟨p,d,e,f⟩:=b;exact⟨p,d,e,bJ f h⟩)
def NB (S:Nat)(b:Bk)(x:Wx)(s':Bk)(d i k c:Int)(Z:Nat)(j:Nat)(vs:Nat->Value)(w:World):Prop:=
 match j with
 |0=>vs 0=(E S 0)
 |1=>vs 1=(E S 0)
 |2=>vs 2=(E S 0)
 |3=>vs 3=b.val
 |4=>vs 4=x.val
 |5=>∃b':Bk,vs 5=.tuple #[b'.val,gF d i k,I c]/\K8 s'.now s'.fl s'.hl b'/\dS Z w b'
 |6=>∃b':Bk,vs 6=.tuple #[b'.val,gF d i k,I c]/\K8 s'.now s'.fl s'.hl b'/\dS Z w b'
 |7=>∃b':Bk,vs 6=.tuple #[b'.val,gF d i k,I c]/\vs 7=b'.val/\K8 s'.now s'.fl s'.hl b'/\dS Z w b'
 |8=>vs 8=gF d i k
 |9=>vs 9=I c
 |10=>∃p,vs 10=(E p 0)/\Z<=p/\w.heap[p]?=some (zo)
 |11=>∃p,vs 11=(E p 0)/\Z<=p/\w.heap[p]?=some (.cells #[I 0,I 0,I 0] 79)
 |_=>True
theorem NB.zL (j:Nat)(m:Nat->Va)(w w':Wd)(h:NB B b x s u y z A Z j m w)(g:aG w w'):NB B b x s u y z A Z j m w':=by
 unfold NB at*;split at h
 all_goals first
  |exact h
  |(obtain⟨b',a,e,f⟩:=h;exact⟨b',a,e,f.zL g⟩)
  |(obtain⟨b',a,e,f,n⟩:=h;exact⟨b',a,e,f,n.zL g⟩)
  |(obtain⟨p,a,e,f⟩:=h;exact⟨p,a,e,bJ f g⟩)
def ZF (j:Nat):List Nat:=if j=7 then[7,6]else[j]
def YD (j:Nat):Bool:=j==8||j==9
theorem NB.loc (j:Nat)(f a:Nat->Va)(w:Wd)(g:∀q∈ZF j,f q=a q)(h:NB n b x s u y z A Z j f w):NB n b x s u y z A Z j a w:=by
 have e:f j=a j:=g j (by unfold ZF;split<;>simp_all);unfold NB at*;split at h
 all_goals first
  |(rw[←e];exact h)
  |(rw[←e,←g 6 (by simp[ZF])];exact h)
  |trivial
def PfI4 (d i k c:Int)(j:Nat)(v:Value):Prop:=if j=8 then v=gF d i k else v=I c
theorem NB.free (j:Nat)(e:Nat->Va)(w:Wd)(a:YD j=true)(h:NB n b x s u y z A Z j e w):PfI4 u y z A j (e j):=by
 simp[YD]at a;rcases a with rfl|rfl<;>exact h
structure GI4 (W:World)(s':Bk)(d i k c:Int)(t:Nat)(vs:Nat->Value)(w':World)(b':Bk)(p q:Nat):Prop where
 tt:vs 6=.tuple #[b'.val,gF d i k,.int .i64 c]
 v:vs 7=b'.val
 vp:vs 10=.pointer (some ⟨p,0,none⟩)
 vq:vs 11=.pointer (some ⟨q,0,none⟩)
 bel:aG W w'
 cnt:K8 s'.now s'.fl s'.hl b'
 sp:dS W.heap.size w' b'
 zp:W.heap.size<=p
 zq:W.heap.size<=q
 p0:t=12->w'.heap[p]?=some (.cells #[.int .i64 0,.slice none 0 0,.slice none 0 0] 32)
 p1:12<t->w'.heap[p]?=some b'.obj
 q0:t<=13->w'.heap[q]?=some (.cells #[.int .i64 0,.int .i64 0,.int .i64 0] 79)
 q1:13<t->w'.heap[q]?=some (jE d i k)
def GI4e (W:World)(s':Bk)(d i k c:Int)(t:Nat)(vs:Nat->Value)(w':World):Prop:=∃b' p q,GI4 W s' d i k c t vs w' b' p q
theorem UY (F:Nat->Prop)(S:Nat)(w:Wd)(s:St)(b:Bk)(v:Va)(hS:lH F S w s b v)(kk:Nat)(kv:jF kk s)(a:List Ba)(ao:Oa)(zf:Nat)(hX:Xs 1 eE w ao a)(je:ln a<=zf)(ji:ln a<=1048570)(yw:∀x∈a,x.size<=1048575):
 aW 35 #[E S 0,.slice ao (ln a) zf] w λe w'=>XT F S w s (k8 s a) e w':=by
 by_cases hl:8<=ln a
 ·obtain⟨nm,q,yb,f,bb,l,lv,y,ys,P⟩:=ws8 hl
  obtain⟨bl,M,rfl⟩:∃bl M,ao=some (Y bl M):=by
   rcases hX with h|⟨bl,M,e,_⟩;·rw[h]at hl;simp at hl
   ·exact⟨bl,M,e⟩
  have jc:Xs 1 eE w (some (Y bl (M+1))) [q,yb,f,bb,l]:=jN hX 1 [nm] _ (lv::y::ys) (by rw[P];rfl) rfl;have yr:Xs 1 eE w (some (Y bl (M+7))) (y::ys):=jN hX 7 [nm,q,yb,f,bb,l,lv] _ [] (by rw[P];simp) rfl;have c0:=iC hX 0 nm (by rw[P];rfl);rw[naz]at c0;have c6:=iC hX 6 lv (by rw[P];rfl);have hlv:lv.size<=1048575:=yw lv (by rw[P];simp);have hnm:nm.size<=1048575:=yw nm (by rw[P];simp);have jr:∀x∈y::ys,x.size<=1048575:=λx hx=>yw x (by rw[P];exact List.mem_append_right [nm,q,yb,f,bb,l,lv] hx);have G:Hid (k8 s a=if j7 [q,yb,f,bb,l]&&j7 (bG 44 lv)then(match fV (y::ys)with|some cs=>oI s (wL nm q yb f bb l (bG 44 lv) cs)|none=>(s,dR))else(s,dR)):=by rw[P];rfl
  obtain⟨YY,xz⟩:=bQ (y::ys);have hm:ln a=ln YY+7:=by rw[P,xz];simp
  rw[←xz]at yr jr G;obtain⟨m,jj⟩:=bQ (ln a);rw[←jj]at hm je ji hl ⊢;have kj:Hid (ln YY<=1048576):=by rw[Hid];omega
  have hm7:m-7=ln YY:=om;have qm:Hid (ln YY+7<=1048570):=by rw[Hid];omega
  have ku:decide ((8:Int)<=(m:Int))=true:=by rw[dte];omega
  clear P xz hX yw jj hm y ys;have yv:ln (bG 44 lv)<=1048576:=by have:=kU 44 lv;omega
  go_enter Tryz.func35,Tryz.ntmps35;go_wp2_with (go_at_call 45;refine(gQ _).mono ?_;rintro e w' ⟨⟨u,rfl⟩,jp⟩;rw[jp];clear jp);go_wp2_with fail;refine(kE [q,yb,f,bb,l] (some (Y bl (M+1))) _ w jc sm).mono ?_;rintro e w2 ⟨⟨xe,v2,rfl,jl⟩|⟨H,rfl⟩,Z⟩
  ·have zi:j7 [q,yb,f,bb,l]=true:=pY xe;obtain⟨a5,c5,rfl,zz⟩:=pW (eN _).symm jl;rcases zz with h|⟨g,oo,rfl,zg⟩;·simp[aS]at h
   have j0:w2.cell? (Y g oo)=some (I (aV q)):=by have:=zg 0 (by simp[aS]) 0 _ rfl;simpa[aS]using this
   have j1:w2.cell? (Y g (oo+1))=some (I (aV yb)):=by have:=zg 1 (by simp[aS]) 0 _ rfl;simpa[aS]using this
   have j2:w2.cell? (Y g (oo+2))=some (I (aV f)):=by have:=zg 2 (by simp[aS]) 0 _ rfl;simpa[aS]using this
   have j3:w2.cell? (Y g (oo+3))=some (I (aV bb)):=by have:=zg 3 (by simp[aS]) 0 _ rfl;simpa[aS]using this
   have j4:w2.cell? (Y g (oo+4))=some (I (aV l)):=by have:=zg 4 (by simp[aS]) 0 _ rfl;simpa[aS]using this
   have e5:ln (aS [q,yb,f,bb,l])=5:=rfl;rw[e5];obtain⟨Q,hQ⟩:=bQ (bG 44 lv);obtain⟨cs,jf⟩:=bQ ((fV YY).getD []);obtain⟨X,xy⟩:=bQ (wL nm q yb f bb l Q cs);obtain⟨NL,yq⟩:=bQ (aS Q);rw[←hQ]at G yv;rw[zi]at G;have jk:ln NL<=1048576:=by rw[yq,eN];exact yv
   obtain⟨i1,xr⟩:∃i,i=aV q:=⟨_,rfl⟩;rw[←xr]at j0;obtain⟨i2,xs⟩:∃i,i=aV yb:=⟨_,rfl⟩;rw[←xs]at j1;obtain⟨i3,xt⟩:∃i,i=aV f:=⟨_,rfl⟩;rw[←xt]at j2;obtain⟨i4,xu⟩:∃i,i=aV bb:=⟨_,rfl⟩;rw[←xu]at j3;obtain⟨i5,xv⟩:∃i,i=aV l:=⟨_,rfl⟩;rw[←xv]at j4
   have yz:Hid (∀(wa:Oa) (wl:List Yx) (wc:Nat) (la:Oa) (lc:Nat),wl.map Yx.l=cs->rK X ⟨nm,i1,i2,i3,i4,i5,wa,wl,wc,la,NL,lc⟩):=λwa wl wc la lc h=>by
    rw[xy,xr,xs,xt,xu,xv,yq];exact AW h
   have yy:Hid (fV YY=some cs->∀(W:Wd) (wa:Oa) (wl:List Yx) (wc:Nat) (la:Oa) (lc:Nat),wl.map Yx.l=cs->Xs 1 Yx.cells W wa wl->(∀y∈wl,y.In W)->(∀y∈wl,ln y.l<=y.c/\y.c<=9223372036854775807)->Xs 1 dV W la NL->iL W ⟨nm,i1,i2,i3,i4,i5,wa,wl,wc,la,NL,lc⟩):=λkw W wa wl wc la lc zk ky kx yx kz=>by
    obtain⟨hwn,va⟩:=AQ YY [[]] cs 1 0 kw sm sm;have:=qm.oQ;refine⟨⟨ky,kx,kz⟩,⟨?_,λy m=>?_,jk,?_⟩,yx⟩
    ·show(ln wl)<=1048576;have:ln wl=ln cs:=by rw[←zk,List.length_map]
     omega
    ·have:=va y.l (by rw[←zk];exact List.mem_map_of_mem m);omega
    ·show nm.size<=_;omega
   have qj:Hid (j7 Q=true->fV YY=some cs->k8 s a=oI s X):=λh1 h2=>by rw[G.oQ,h1,h2,xy];rfl
   have qh:Hid (j7 Q=false->k8 s a=(s,dR)):=λh=>by rw[G.oQ,h];rfl
   have qi:Hid (fV YY=none->k8 s a=(s,dR)):=λh=>by rw[G.oQ,h];split<;>rfl
   obtain⟨GL,V⟩:∃GL:Prop,GL=(j7 Q=true):=⟨_,rfl⟩;obtain⟨GW,R⟩:∃GW:Prop,GW=(fV YY=some cs):=⟨_,rfl⟩;have xi:Hid (GL↔j7 Q=true):=by rw[Hid,V]
   have yd:Hid (GW↔fV YY=some cs):=by rw[Hid,R]
   have HQ:=aI hQ.symm;have qk:=aI yq.symm;have xh:=aI jf.symm;have ka:=aI yv;have zb:=aI Z;replace hS:=hS.zL Z;replace c0:=ctq Z c0;replace c6:=ctq Z c6;replace yr:=yr.zL Z;clear xe jl Z zi zg e5 hQ jf xy yq V R xr xs xt xu xv G yv jc qm jk;go_upto_region 3 with fail;refine pG 28 [some 17,some 18,some 19,some 20,some 21,some 22,some 23,some 24,some 25,some 26,some 27,some 28,some 29,some 30,some 31,some 32,some 33,some 34,some 35,some 36,some 37,some 38,some 39,some 40,some 41,some 42,some 43,some 6] (IS3 (sl bl M m zf) (sl g oo 5 c5) bl M g oo nm lv i1 i2 i3 i4 i5 Q NL YY (zf-7) cs X GL GW w2.heap.size) IS3.zL ?step ?fin
   case step=>
    intro ii o K w' zh C A z;have js:=ctq A c0;have z6z:=ctq A c6;have j0j:=ctq A j0;have j1j:=ctq A j1;have j2j:=ctq A j2;have j3j:=ctq A j3;have j4j:=ctq A j4;match ii,zh with
    |1,_|2,_|4,_|5,_|7,_|8,_|10,_|11,_|13,_|14,_|16,_|17,_|19,_|20,_|24,_=>
     cases C;simp[Region.binds,IS3]at z;simp only[aD,Act.put,z];gi_wp2;exact⟨_,by simp[aH,z],rfl,br _ _⟩
    |0,_|3,_|6,_|9,_|12,_|15,_|18,_|23,_=>
     cases C;gi_wp2;exact⟨_,uhx,rfl,br _ _⟩
    |21,_=>
     cases C;simp[Region.binds,IS3]at z;simp only[aD,Act.put,z];gi_wp2_with fail;refine tqx ?_;refine(cw.2 (IL lv 44 w' (hS.e.zL A) om)).mono ?_;rintro e w5 ⟨⟨rfl,zz⟩,B⟩;rw[show(((44:UInt8).toNat:Nat):Int)=44 from rfl,HQ.oQ]at zz ⊢;have kh:=aI zz;clear zz;gi_wp2;exact⟨_,by simp[aH,z],⟨_,rfl,kh.oQ⟩,B⟩
    |22,_=>
     cases C;obtain⟨p,qr,hx⟩:=Zq z 21;clear z;simp only[aD,Act.put,qr];gi_wp2_with fail;refine tqx ?_;refine(cw.2 (kE Q (some (Y p 0)) (ln Q) w' hx ka.oQ)).mono ?_;rintro e w5 ⟨⟨xf,v5,rfl,jm⟩|⟨H,rfl⟩,B⟩
     ·have HG:Hid GL:=xi.oQ.2 (pY xf);obtain⟨a5,qn,e5,zi⟩:=FL (eN Q).symm jm;rw[qk.oQ]at e5 zi;subst e5;have jz:=aI zi;clear zi jm xf hx;gi_wp2;exact⟨.slice a5 (ln NL) qn,by simp[aH,qr],⟨⟨a5,qn,rfl,jz.oQ⟩,HG.oQ⟩,B⟩
     ·have HZ:=aI (qh.oQ (sA H));have xk:=aI (aE (aE zb.oQ A) B);clear H B hx;gi_wp2;exact⟨rfl,.inl ⟨HZ.oQ,rfl,xk.oQ⟩⟩
    |25,_=>
     cases C;have qt:K 24=(sl bl (M+7) (ln YY) (zf-7)):=Zq z 24;clear z;simp only[aD,Act.put,qt];gi_wp2_with fail;refine tqx ?_;refine(cw.2 (PT YY (some (Y bl (M+7))) (zf-7) w' (hS.e.zL A) (yr.zL A) kj.oQ jr)).mono ?_;rintro e w5 ⟨⟨kl,ze,v5,rfl,zx⟩|⟨H,rfl⟩,B⟩
     ·have HG:Hid GW:=yd.oQ.2 (by rw[ze,←xh.oQ,ze];rfl)
      have kg:Hid (AS w5 v5 cs):=by
       have e:kl=cs:=by rw[←xh.oQ,ze];rfl
       rw[←e];exact zx
      clear zx ze;gi_wp2;exact⟨_,by simp[aH,qt],⟨kg.oQ,HG.oQ⟩,B⟩
     ·have HZ:=aI (qi.oQ H);have xk:=aI (aE (aE zb.oQ A) B);clear H B;gi_wp2;exact⟨rfl,.inl ⟨HZ.oQ,rfl,xk.oQ⟩⟩
    |26,_=>
     cases C;have d2:K 2=.string nm:=Zq z 2;have d5:K 5=I i1:=Zq z 5;have d8:K 8=I i2:=Zq z 8;have zt:K 11=I i3:=Zq z 11;have qp:K 14=I i4:=Zq z 14;have qq:K 17=I i5:=Zq z 17;obtain⟨⟨la,lc,qs,jh⟩,V⟩:=Zq z 22;obtain⟨zx,R⟩:=Zq z 25;obtain⟨wa,wl,wc,zu,zk,qf,yx⟩:=zx.e;have HG:Hid (GL/\GW):=⟨V,R⟩;have ki:Hid (∃x:Wx,Wx.val ⟨nm,i1,i2,i3,i4,i5,wa,wl,wc,la,NL,lc⟩=x.val/\(∀w2,KpW w' w2->iL w2 x)/\rK X x):=⟨_,rfl,λw2 h2=>yy.oQ (yd.oQ.1 R) w2 wa wl wc la lc zk (qf w2 h2).1 (qf w2 h2).2 yx (jh w2 h2),yz.oQ wa wl wc la lc zk⟩;clear z V R jh zx zk qf yx;simp only[aD,Act.put,d2,d5,d8,zt,qp,qq,qs,zu];gi_wp2;exact⟨_,by simp[aH,d2,d5,d8,zt,qp,qq,qs,zu],⟨ki.oQ,HG.oQ⟩,br _ _⟩
    |27,_=>
     cases C;gi_wp2;exact⟨_,uhx,⟨_,rfl,A.size,wnq w' _⟩,aC (br _ _) _⟩
    |q+28,h=>omega
   case fin=>
    intro K w8 A hp;obtain⟨⟨x,yg,xb,zy⟩,V,R⟩:=hp 26 dz;obtain⟨U,yh,hU,zw⟩:=hp 27 dz;have kb:=aI zy;have ye:=aI (qj.oQ (xi.oQ.1 V) (yd.oQ.1 R));have yu:aU (λr=>r=U) w8 ((((((((w8.setCell (Y U 0) (.string x.n)).setCell (Y U 1) (I x.q)).setCell (Y U 2) (I x.s)).setCell (Y U 3) (I x.f)).setCell (Y U 4) (I x.b)).setCell (Y U 5) (I x.l)).setCell (Y U 6) (.slice x.wa (ln x.wl) x.wc)).setCell (Y U 7) (.slice x.la (ln x.ll) x.lc)):=((((((((aU.refl (λr=>r=U) w8).set (g:=U) rfl _ _).set (g:=U) rfl _ _).set (g:=U) rfl _ _).set (g:=U) rfl _ _).set (g:=U) rfl _ _).set (g:=U) rfl _ _).set (g:=U) rfl _ _).set (g:=U) rfl _ _
    have qg:Hid (iL ((((((((w8.setCell (Y U 0) (.string x.n)).setCell (Y U 1) (I x.q)).setCell (Y U 2) (I x.s)).setCell (Y U 3) (I x.f)).setCell (Y U 4) (I x.b)).setCell (Y U 5) (I x.l)).setCell (Y U 6) (.slice x.wa (ln x.wl) x.wc)).setCell (Y U 7) (.slice x.la (ln x.ll) x.lc)) x):=xb _ (λk c t ht hc=>yu.block k (iB hc) (λe=>by
     have e':k=U:=e;rw[e',zw]at hc;cases hc;simp at ht))
    have xw:((((((((w8.setCell (Y U 0) (.string x.n)).setCell (Y U 1) (I x.q)).setCell (Y U 2) (I x.s)).setCell (Y U 3) (I x.f)).setCell (Y U 4) (I x.b)).setCell (Y U 5) (I x.l)).setCell (Y U 6) (.slice x.wa (ln x.wl) x.wc)).setCell (Y U 7) (.slice x.la (ln x.ll) x.lc)).heap[U]?=some (wo x):=by
     have:=aP (aP (aP (aP (aP (aP (aP (aP zw 0 (.string x.n)) 1 (I x.q)) 2 (I x.s)) 3 (I x.f)) 4 (I x.b)) 5 (I x.l)) 6 (.slice x.wa (ln x.wl) x.wc)) 7 (.slice x.la (ln x.ll) x.lc);simpa only[sit,lcs,lcz]using this
    have zl:Hid (aG w ((((((((w8.setCell (Y U 0) (.string x.n)).setCell (Y U 1) (I x.q)).setCell (Y U 2) (I x.s)).setCell (Y U 3) (I x.f)).setCell (Y U 4) (I x.b)).setCell (Y U 5) (I x.l)).setCell (Y U 6) (.slice x.wa (ln x.wl) x.wc)).setCell (Y U 7) (.slice x.la (ln x.ll) x.lc))):=yu.under (aE zb.oQ A) (nlq _) (λk e=>by rw[e];exact nlt zb.oQ.size hU);have xl:Hid (lH F S ((((((((w8.setCell (Y U 0) (.string x.n)).setCell (Y U 1) (I x.q)).setCell (Y U 2) (I x.s)).setCell (Y U 3) (I x.f)).setCell (Y U 4) (I x.b)).setCell (Y U 5) (I x.l)).setCell (Y U 6) (.slice x.wa (ln x.wl) x.wc)).setCell (Y U 7) (.slice x.la (ln x.ll) x.lc)) s b v):=hS.zL (yu.under A (nlq _) (λk e=>by rw[e];exact hU));obtain⟨t0,t1,t2,t3,t4,t5,t6,t7⟩:=gT zw;have tf:=jS zw;clear hp A xb zy V R zw yu hS xi yd yy yz qj qh qi HQ qk xh zb;simp only[lds,ldz,aD,Act.put];rw[yg,yh];clear yg yh;generalize K=K;gi_wp2_with fail;go_upto_region 4 with fail;obtain⟨W3,jb⟩:=cI ((((((((w8.setCell (Y U 0) (.string x.n)).setCell (Y U 1) (I x.q)).setCell (Y U 2) (I x.s)).setCell (Y U 3) (I x.f)).setCell (Y U 4) (I x.b)).setCell (Y U 5) (I x.l)).setCell (Y U 6) (.slice x.wa (ln x.wl) x.wc)).setCell (Y U 7) (.slice x.la (ln x.ll) x.lc));rw[jb]at xw qg zl xl ⊢;clear jb t0 t1 t2 t3 t4 t5 t6 t7 tf;have T:lH F S W3 s b v:=xl.oQ;have ja:W3.heap[U]?=some (wo x):=xw;have xj:Hid (aG w W3):=zl.oQ;clear xl xw zl;obtain⟨d,i,kq,qz,qw⟩:=RW s.b X;have kf:=aI qz;have jx:=aI qw;obtain⟨xc,xd⟩:=BY s.b X;obtain⟨cd,qb⟩:=bQ (dF s.b X);rw[←qb]at xc xd;have zn:=aI qb.symm;obtain⟨u0,u1,u2,u3,u4,u5,u6,u7⟩:=gT ja;clear qb qz qw;refine ZC 6 12 14 [some 45,some 46,some 47,some 48,some 49,some 50,some 44,some 51,some 52,some 53,some 7,some 8,none,none] YD ZF (NB S b x (dN s.b s.b.now (eY s.b X)) d i kq cd W3.heap.size) (PfI4 d i kq cd) (GI4e W3 (dN s.b s.b.now (eY s.b X)) d i kq cd) NB.zL NB.loc NB.free ?step ?free ?g0 ?gf ?store ?fin
    case step=>
     intro ii o K w' zh C A z;obtain⟨js,vf,vg,z3z⟩:=(T.zL A).c;have y0y:=ctq A u0;have y1y:=ctq A u1;have y2y:=ctq A u2;have y3y:=ctq A u3;have y4y:=ctq A u4;have y5y:=ctq A u5;have y6y:=ctq A u6;have y7y:=ctq A u7;match ii,zh with
     |1,_|2,_|3,_=>
      cases C;simp[Region.binds,NB]at z;simp only[aD,Act.put,z];gi_wp2;exact⟨_,by simp[aH,z],rfl,br _ _⟩
     |0,_|4,_=>
      cases C;gi_wp2;exact⟨_,uhx,rfl,br _ _⟩
     |5,_=>
      cases C;simp[Region.binds,NB]at z;simp only[aD,Act.put,z];gi_wp2_with fail;refine tqx ?_;refine(cw.2 (UJ (by have:=(T.zL A).e.s;omega) (T.zL A).e.l (T.zL A).b kv.b (qg.oQ.zL A) kb.oQ)).mono ?_;rintro e w5 ⟨⟨b',rfl,N,O⟩,B⟩;rw[kf.oQ,zn.oQ];have zm:=aI (N);have zr:=aI (O.weak A.size);clear N O;gi_wp2;exact⟨_,by simp[aH,z],⟨b',rfl,zm.oQ,zr.oQ⟩,B⟩
     |6,_=>
      cases C;obtain⟨b',zu,N,O⟩:=Zq z 5;have zm:=aI (N);have zr:=aI (O);clear N O z;simp only[aD,Act.put,zu];gi_wp2;exact⟨_,by simp[aH,zu],⟨b',rfl,zm.oQ,zr.oQ⟩,br _ _⟩
     |7,_=>
      cases C;obtain⟨b',L,N,O⟩:=Zq z 6;have zm:=aI (N);have zr:=aI (O);clear N O z;simp only[aD,Act.put,L];gi_wp2;exact⟨_,by simp[aH,L],⟨b',by simp[aH,L],rfl,zm.oQ,zr.oQ⟩,br _ _⟩
     |8,_|9,_=>
      cases C;obtain⟨b',L,N,O⟩:=Zq z 6;clear N O z;simp only[aD,Act.put,L];gi_wp2;exact⟨_,by simp[aH,L],rfl,br _ _⟩
     |10,_|11,_=>
      cases C;gi_wp2;exact⟨_,uhx,⟨_,rfl,A.size,wnq w' _⟩,aC (br _ _) _⟩
     |q+12,h=>omega
    case free=>
     intro ii o K w' t zh qc C ht htM j z;obtain⟨b',p,q,j⟩:=j;have L:=j.tt
     have qd:ii=8∨ii=9:=by
      simp[YD]at qc;omega
     clear j z;rcases qd with rfl|rfl
     ·simp at C;subst C;simp only[aD,Act.put,L];gi_wp2;exact⟨gF d i kq,by simp[aH,L],rfl,trivial⟩
     ·simp at C;subst C;simp only[aD,Act.put,L];gi_wp2;exact⟨I cd,by simp[aH,L],rfl,trivial⟩
    case g0=>
     intro K w' A hp;obtain⟨b',yg,yh,h1,h2⟩:=hp 7 dz rfl;obtain⟨p,ep,zp,za⟩:=hp 10 dz rfl;obtain⟨q,eq,zq,D⟩:=hp 11 dz rfl;exact⟨b',p,q,yg,yh,ep,eq,A,h1,h2,zp,zq,λ_=>za,λh=>absurd h dz,λ_=>D,λh=>absurd h dz⟩
    case gf=>
     intro t K w' ii v qc j;obtain⟨b',p,q,j⟩:=j
     have qd:ii=8∨ii=9:=by
      simp[YD]at qc;omega
     rcases qd with rfl|rfl<;>exact⟨b',p,q,j.tt,j.v,j.vp,j.vq,j.bel,j.cnt,j.sp,j.zp,j.zq,j.p0,j.p1,j.q0,j.q1⟩
    case store=>
     intro t o K w' h12 h15 C j z;obtain⟨b',p,q,j⟩:=j;have ht:t=12∨t=13:=om;rcases ht with rfl|rfl
     ·simp at C;subst C;have xn:=j.v;have xp:=j.vp;have za:=j.p0 rfl;obtain⟨vb,vc,vd⟩:=aM za;have ve:=jS za;have k1:=aP za 0 (I b'.now);have k2:=aP k1 1 (fs b');have k3:=aP k2 2 (hs b');have D:=j.q0 dz;have qe:q≠p:=λe=>by rw[e,za]at D;cases D
      have HQ:=aI (bF D (dJ w' p b') qe);have HP:=aI k3;have xm:Hid (dS W3.heap.size (gI w' p b') b'):=j.sp.butT (dJ w' p b') za dz dz dz;have xg:Hid (aG W3 (gI w' p b')):=(dJ w' p b').under j.bel (nlq _) (λk e=>by rw[e];exact j.zp);have J:Hid _:=j;clear j z za D k1 k2 k3;simp only[aD,Act.put,xn,xp];gi_wp2;exact⟨undef,by simp[aH,xn,xp],b',p,q,J.oQ.tt,xn,xp,J.oQ.vq,xg.oQ,J.oQ.cnt,xm.oQ,J.oQ.zp,J.oQ.zq,λh=>absurd h dz,λ_=>HP.oQ,λ_=>HQ.oQ,λh=>absurd h dz⟩
     ·simp at C;subst C;have qu:K 8=gF d i kq:=z (eD 8) sm rfl dz rfl;have xq:=j.vq;have D:=j.q0 dz;obtain⟨vb,vc,vd⟩:=aM D;have ve:=jS D;have k1:=aP D 0 (I d);have k2:=aP k1 1 (I i);have k3:=aP k2 2 (I kq);have yt:aU (λr=>r=q) w' (((w'.setCell (Y q 0) (I d)).setCell (Y q 1) (I i)).setCell (Y q 2) (I kq)):=(((aU.refl (λr=>r=q) w').set (g:=q) rfl _ _).set (g:=q) rfl _ _).set (g:=q) rfl _ _;have zj:=j.p1 dz;have qe:p≠q:=λe=>by rw[←e,zj]at D;simp[Bk.obj]at D
      have HP:=aI (bF zj yt qe);have HQ:=aI k3;have xm:Hid (dS W3.heap.size (((w'.setCell (Y q 0) (I d)).setCell (Y q 1) (I i)).setCell (Y q 2) (I kq)) b'):=j.sp.butT yt D dz dz dz;have xg:Hid (aG W3 (((w'.setCell (Y q 0) (I d)).setCell (Y q 1) (I i)).setCell (Y q 2) (I kq))):=yt.under j.bel (nlq _) (λk e=>by rw[e];exact j.zq);have J:Hid _:=j;clear j z zj D k1 k2 k3 yt;simp only[aD,Act.put,qu,xq];gi_wp2;exact⟨undef,by simp[aH,qu,xq],b',p,q,J.oQ.tt,J.oQ.v,J.oQ.vp,xq,xg.oQ,J.oQ.cnt,xm.oQ,J.oQ.zp,J.oQ.zq,λh=>absurd h dz,λ_=>HP.oQ,λh=>absurd h dz,λ_=>HQ.oQ⟩
    case fin=>
     intro K w' j hp;obtain⟨b',p,q,j⟩:=j;have d9:K 9=I cd:=hp 9 dz rfl;have qo:=j.vp;have zt:=j.vq;have zv:=T.zL j.bel;have qy:=T.fit.1;have zc:Hid (lH (λk=>F k∨(W3.heap.size<=k/\k<w'.heap.size)) S (gI w' S b') ⟨dN s.b s.b.now (eY s.b X),s.t⟩ b' v):=zv.put qy T.fit.2 (j.sp.at (λk e=>e) j.cnt);have jy:Hid (∀k,(F k∨(W3.heap.size<=k/\k<w'.heap.size))->F k∨w.heap.size<=k):=λk hk=>hk.elim .inl (λh=>.inr (nlt xj.oQ.size h.1));have yc:Hid (aU F w (gI w' S b')):=(aU.below (aE xj.oQ j.bel)).trans ((dJ w' S b').wide (λk e=>by rw[e];exact T.fS));have kc:=aI (aE xj.oQ j.bel);obtain⟨y0,y1,y2,y3⟩:=zv.c;have yf:=zv.fz;have zj:=j.p1 dz;have jn:=j.q1 dz;obtain⟨x0,x1,x2⟩:=aM zj;have qx:q≠S:=λe=>by have:=j.zq;omega
     have jo:=bF jn (dJ w' S b') qx;obtain⟨v0,v1,v2⟩:=aM jo;have ql:=aI zv;clear hp j zv zj jn qx jo qy u0 u1 u2 u3 u4 u5 u6 u7 ja T;simp only[lds,ldz,aD,Act.put];rw[d9,qo,zt];clear d9 qo zt;generalize K=K;by_cases zd:cd=0
     ·have jd:(cd !=0)=false:=by simp[zd]
      obtain⟨jg,km,kn,ko,kp,ks,kt⟩:=jx.oQ (by rw[zn.oQ];exact zd);obtain⟨s0,yi⟩:∃s,s=dH d:=⟨_,rfl⟩;obtain⟨s1,yj⟩:∃s,s=(⟨#[108,97,116,101,32]⟩:Ba)++s0:=⟨_,rfl⟩;obtain⟨s2,yk⟩:∃s,s=s1++(⟨#[32,119,97,121,32]⟩:Ba):=⟨_,rfl⟩;obtain⟨s3,yl⟩:∃s,s=dH i:=⟨_,rfl⟩;obtain⟨s4,ym⟩:∃s,s=s2++s3:=⟨_,rfl⟩;obtain⟨s5,yn⟩:∃s,s=s4++(⟨#[32,108,101,118,101,108,32]⟩:Ba):=⟨_,rfl⟩;obtain⟨s6,yo⟩:∃s,s=dH kq:=⟨_,rfl⟩;obtain⟨s7,yp⟩:∃s,s=s5++s6:=⟨_,rfl⟩;have vh:s0.size<=2000001:=by rw[yi];exact bD kn
      have vi:s1.size=5+s0.size:=by rw[yj,bsz];rfl
      have vj:s2.size=s1.size+5:=by rw[yk,bsz];rfl
      have vk:s3.size<=2000001:=by rw[yl];exact bD kp
      have vl:s4.size=s2.size+s3.size:=by rw[ym,bsz]
      have vm:s5.size=s4.size+7:=by rw[yn,bsz];rfl
      have vn:s6.size<=2000001:=by rw[yo];exact bD kt
      have vo:s7.size=s5.size+s6.size:=by rw[yp,bsz]
      have gs1:¬9223372036854775807<5+s0.size:=om;have gs2:¬9223372036854775807<s1.size+5:=om;have gs4:¬9223372036854775807<s2.size+s3.size:=om;have gs5:¬9223372036854775807<s4.size+7:=om;have gs7:¬9223372036854775807<s5.size+s6.size:=om
      have zs:Hid (oI s X=(⟨dN s.b s.b.now (eY s.b X),s.t⟩,s7)):=by
       rw[Hid,oI,zn.oQ,if_pos zd,jg,←yi,←yj,←yk,←yl,←ym,←yn,←yo,←yp]
      have jt:=aI yi;have fs1:=yj.symm;have fs2:=yk.symm;have ju:=aI yl;have fs4:=ym.symm;have fs5:=yn.symm;have jv:=aI yo;have fs7:=yp.symm;clear jg yi vh yj vi yk vj yl vk ym vl yn vm yo vn yp vo;subst zd;gi_wp2_with fail;go_upto_region 8 with fail;obtain⟨W7,xx⟩:=cI (((w'.setCell (Y S 0) (I b'.now)).setCell (Y S 1) (fs b')).setCell (Y S 2) (hs b'));have xa:gI w' S b'=W7:=xx;rw[xa]at v0 v1 v2 zc yc;rw[xx];clear xx xa y0 y1 y2 y3 yf x0 x1 x2;refine pG 14 [some 62,some 63,some 64,some 65,some 66,some 67,some 68,some 69,some 70,some 71,some 72,some 73,some 74,some 75] (EA q d i kq s0 s1 s2 s3 s4 s5 s6 s7) (λ_ _ _ _ h _=>h) ?step ?fin
      case step=>
       intro ii o K w' zh C A z;have js:=ctq A v0;have vf:=ctq A v1;have vg:=ctq A v2;match ii,zh with
       |1,_|3,_|4,_|6,_|8,_|9,_|11,_|13,_=>
        cases C;simp[Region.binds,EA]at z;simp only[aD,Act.put,z];gi_wp2;exact⟨_,by simp[aH,z],rfl,br _ _⟩
       |0,_|5,_|10,_=>
        cases C;gi_wp2;exact⟨_,uhx,rfl,br _ _⟩
       |2,_=>
        cases C;simp[Region.binds,EA]at z;simp only[aD,Act.put,z];gi_wp2_with fail;refine tqx ?_;refine(cw.2 (wO d w' (zc.oQ.e.zL A) km om)).mono ?_;rintro e w5 ⟨rfl,B⟩;rw[←jt.out];gi_wp2;exact⟨_,by simp[aH,z],rfl,B⟩
       |7,_=>
        cases C;simp[Region.binds,EA]at z;simp only[aD,Act.put,z];gi_wp2_with fail;refine tqx ?_;refine(cw.2 (wO i w' (zc.oQ.e.zL A) ko om)).mono ?_;rintro e w5 ⟨rfl,B⟩;rw[←ju.out];gi_wp2;exact⟨_,by simp[aH,z],rfl,B⟩
       |12,_=>
        cases C;simp[Region.binds,EA]at z;simp only[aD,Act.put,z];gi_wp2_with fail;refine tqx ?_;refine(cw.2 (wO kq w' (zc.oQ.e.zL A) ks om)).mono ?_;rintro e w5 ⟨rfl,B⟩;rw[←jv.out];gi_wp2;exact⟨_,by simp[aH,z],rfl,B⟩
       |q+14,h=>omega
      case fin=>
       intro K w8 A hp;have qv:K 13=.string s7:=hp 13 dz;have kd:Hid _:=zc.oQ.zL A;have zl:Hid _:=yc.oQ.trans (aU.below A);clear hp A zc yc;simp only[lds,ldz,aD,Act.put];rw[qv];clear qv;generalize K=K;gi_wp2_with fail;go_wp2;go_ret;exact .inr ⟨⟨_,_,_,by rw[ye.oQ,zs.oQ];exact kd.oQ,jy.oQ⟩,by rw[ye.oQ,zs.oQ];rfl,zl.oQ⟩
     ·have jd:(cd !=0)=true:=by simp[zd]
      have zs:Hid (oI s X=(⟨dN s.b s.b.now s.b.hl,s.t⟩,jC cd)):=by rw[Hid,oI,zn.oQ,if_neg zd,eY,mO,if_neg (by rw[←dF,zn.oQ];exact zd)]
      clear zc yc v0 v1 v2;gi_wp2_with fail;go_wp2_with fail;refine(wD cd _ ql.oQ.e xc xd).mono ?_;rintro e w9 ⟨rfl,qa⟩;have ke:=aI ((ql.oQ.zL qa).same);have jw:Hid (aU F w w9):=aU.below (aE kc.oQ qa);clear qa;go_wp2;go_ret;exact .inr ⟨⟨F,b,v,by rw[ye.oQ,zs.oQ];exact ke.oQ,λk hk=>.inl hk⟩,by rw[ye.oQ,zs.oQ];rfl,jw.oQ⟩
  ·have HR:Hid (k8 s a=(s,dR)):=by rw[Hid,G.oQ,sA H];rfl
   have zb:=aI Z;clear H Z;go_wp2;exact⟨rfl,.inl ⟨HR.oQ,rfl,zb.oQ⟩⟩
 ·have HR:Hid (k8 s a=(s,dR)):=xR hl;have ku:decide ((8:Int)<=(ln a:Int))=false:=by rw[dfi];omega
  clear hl;go_enter Tryz.func35,Tryz.ntmps35;go_wp2_with (go_at_call 45;refine(jU _).mono ?_;rintro e w' ⟨rfl,rfl⟩);exact⟨rfl,.inl ⟨HR.oQ,rfl,br _ _⟩⟩
