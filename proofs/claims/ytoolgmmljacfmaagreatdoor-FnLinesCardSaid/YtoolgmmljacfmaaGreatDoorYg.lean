import Derived.Test.YtoolgmmljacfmaaGreatDoorYf
set_option maxRecDepth 100000
set_option maxHeartbeats 16000000
open List renaming length → ln
open Go.RowKit
namespace Go.Proofs.YtoolgmmljacfmaaGreatDoor
open Go.BigFrame
variable {D n l g o Z m f a:Nat}{b q p:Bk}{x:Wx}{t r:Va}{d i k c:Int}
def NE (D:Nat)(b:Bk)(x:Wx)(vw vn:Value)(bl off g o:Nat)(s':Bk)(d i k c:Int)(Z:Nat)(j:Nat)(vs:Nat->Value)(w:World):Prop:=
 match j with
 |0=>vs 0=(E D 0)
 |1=>vs 1=(E D 0)
 |2=>vs 2=(E D 0)
 |3=>vs 3=b.val
 |4=>vs 4=vw
 |5=>vs 5=(E bl (off+1))
 |6=>vs 6=.string x.n
 |7=>vs 7=vn
 |8=>vs 8=(E g o)
 |9=>vs 9=I x.q
 |10=>vs 10=vn
 |11=>vs 11=(E g (o+1))
 |12=>vs 12=I x.s
 |13=>vs 13=vn
 |14=>vs 14=(E g (o+2))
 |15=>vs 15=I x.f
 |16=>vs 16=vn
 |17=>vs 17=(E g (o+3))
 |18=>vs 18=I x.b
 |19=>vs 19=vn
 |20=>vs 20=(E g (o+4))
 |21=>vs 21=I x.l
 |22=>vs 22=.slice x.wa x.wl.length x.wc
 |23=>vs 23=.slice x.la x.ll.length x.lc
 |24=>vs 24=x.val
 |25=>∃b':Bk,vs 25=.tuple #[b'.val,gF d i k,I c]/\K8 s'.now s'.fl s'.hl b'/\dS Z w b'
 |26=>∃b':Bk,vs 26=.tuple #[b'.val,gF d i k,I c]/\K8 s'.now s'.fl s'.hl b'/\dS Z w b'
 |27=>∃b':Bk,vs 26=.tuple #[b'.val,gF d i k,I c]/\vs 27=b'.val/\K8 s'.now s'.fl s'.hl b'/\dS Z w b'
 |28=>vs 28=gF d i k
 |29=>vs 29=I c
 |30=>∃p,vs 30=(E p 0)/\Z<=p/\w.heap[p]?=some (zo)
 |31=>∃p,vs 31=(E p 0)/\Z<=p/\w.heap[p]?=some (.cells #[I 0,I 0,I 0] 79)
 |_=>True
theorem NE.zL (j:Nat)(s:Nat->Va)(w w':Wd)(h:NE D b x t r n l g o q d i k c Z j s w)(m:aG w w'):NE D b x t r n l g o q d i k c Z j s w':=by
 unfold NE at*;split at h
 all_goals first
  |exact h
  |(obtain⟨b',a,e,f⟩:=h;exact⟨b',a,e,f.zL m⟩)
  |(obtain⟨b',a,e,f,u⟩:=h;exact⟨b',a,e,f,u.zL m⟩)
  |(obtain⟨p,a,e,f⟩:=h;exact⟨p,a,e,bJ f m⟩)
def ZQ (j:Nat):List Nat:=if j=27 then[27,26]else[j]
def YR (j:Nat):Bool:=j==28||j==29
theorem NE.loc (j:Nat)(l a:Nat->Va)(w:Wd)(n:∀q∈ZQ j,l q=a q)(h:NE D b x t r m f g o p d i k c Z j l w):NE D b x t r m f g o p d i k c Z j a w:=by
 have e:l j=a j:=n j (by unfold ZQ;split<;>simp_all);unfold NE at*;split at h
 all_goals first
  |(rw[←e];exact h)
  |(rw[←e,←n 26 (by simp[ZQ])];exact h)
  |trivial
def PfW6 (d i k c:Int)(j:Nat)(v:Value):Prop:=if j=28 then v=gF d i k else v=I c
theorem NE.free (j:Nat)(f:Nat->Va)(w:Wd)(e:YR j=true)(h:NE D b x t r l a g o q d i k c Z j f w):PfW6 d i k c j (f j):=by
 simp[YR]at e;rcases e with rfl|rfl<;>exact h
structure GW6 (W:World)(s':Bk)(d i k c:Int)(t:Nat)(vs:Nat->Value)(w':World)(b':Bk)(p q:Nat):Prop where
 tt:vs 26=.tuple #[b'.val,gF d i k,.int .i64 c]
 v:vs 27=b'.val
 vp:vs 30=.pointer (some ⟨p,0,none⟩)
 vq:vs 31=.pointer (some ⟨q,0,none⟩)
 bel:aG W w'
 cnt:K8 s'.now s'.fl s'.hl b'
 sp:dS W.heap.size w' b'
 zp:W.heap.size<=p
 zq:W.heap.size<=q
 p0:t=32->w'.heap[p]?=some (.cells #[.int .i64 0,.slice none 0 0,.slice none 0 0] 32)
 p1:32<t->w'.heap[p]?=some b'.obj
 q0:t<=33->w'.heap[q]?=some (.cells #[.int .i64 0,.int .i64 0,.int .i64 0] 79)
 q1:33<t->w'.heap[q]?=some (jE d i k)
def GW6e (W:World)(s':Bk)(d i k c:Int)(t:Nat)(vs:Nat->Value)(w':World):Prop:=∃b' p q,GW6 W s' d i k c t vs w' b' p q
def EA (q:Nat)(d i k:Int)(s0 s1 s2 s3 s4 s5 s6 s7:ByteArray)(j:Nat)(v:Value)(_w:World):Prop:=
 match j with
 |0=>v=(E q 0)
 |1=>v=I d
 |2=>v=.string s0
 |3=>v=.string s1
 |4=>v=.string s2
 |5=>v=(E q 1)
 |6=>v=I i
 |7=>v=.string s3
 |8=>v=.string s4
 |9=>v=.string s5
 |10=>v=(E q 2)
 |11=>v=I k
 |12=>v=.string s6
 |13=>v=.string s7
 |_=>True
theorem UE (D:Nat)(w:Wd)(s:St)(b:Bk)(ta:Oa)(tc k:Nat)(hS:o9 D w s b ta tc)(ji:jF k s)(ws:List Ba)(bl O zv:Nat)(hX:Xs 1 eE w (some (Y bl O)) ws)(h9:8<ln ws)(qb:ln ws<=zv)(qd:ln ws<=1048570)(yn:∀x∈ws,x.size<=1048575):
 aW 48 #[E D 0,.slice (some (Y bl O)) (ln ws) zv] w λe w'=>RO D w (k8 s ws.tail) e w':=by
 obtain⟨n,nm,q,R,f,P,l,lv,y,ys,K⟩:=ws9 h9;have xy:Xs 1 eE w (some (Y bl (O+2))) [q,R,f,P,l]:=jN hX 2 [n,nm] _ (lv::y::ys) (by rw[K];rfl) rfl;have M:Xs 1 eE w (some (Y bl (O+8))) (y::ys):=jN hX 8 [n,nm,q,R,f,P,l,lv] _ [] (by rw[K];simp) rfl;have c1:=iC hX 1 nm (by rw[K];rfl);have c7:=iC hX 7 lv (by rw[K];rfl);have jf:lv.size<=1048575:=yn lv (by rw[K];simp);have jh:nm.size<=1048575:=yn nm (by rw[K];simp);have xm:∀x∈y::ys,x.size<=1048575:=λx hx=>yn x (by rw[K];exact List.mem_append_right [n,nm,q,R,f,P,l,lv] hx)
 have u:Hid (k8 s ws.tail=if j7 [q,R,f,P,l]&&j7 (bG 44 lv)then(match fV (y::ys)with|some cs=>oI s (wL nm q R f P l (bG 44 lv) cs)|none=>(s,dR))else(s,dR)):=by rw[K];rfl
 obtain⟨YY,xd⟩:=bQ (y::ys);have hm:ln ws=ln YY+8:=by rw[K,xd];simp
 rw[←xd]at M xm u;obtain⟨m,qe⟩:=bQ (ln ws);rw[←qe]at hm qb qd h9 ⊢;have jg:m-8=ln YY:=om
 clear K xd hX yn qe hm n y ys;have ym:ln (bG 44 lv)<=1048576:=by have:=kU 44 lv;omega
 go_enter Tryz.func48,Tryz.ntmps48
 go_wp2_with fail
 refine(cC [q,R,f,P,l] (some (Y bl (O+2))) (zv-2) w xy sm).mono ?_;rintro e w1 ⟨⟨v1,rfl,qj⟩,zd⟩;have yz:=aI qj;have xp:=aI zd
 replace c1:=ctq zd c1
 replace c7:=ctq zd c7
 replace M:=M.zL zd
 replace hS:=hS.zL zd
 clear qj zd xy;obtain⟨p1,N⟩:∃p,p=j7 [q,R,f,P,l]:=⟨_,rfl⟩;rw[←N]at yz u ⊢;clear N;go_wp2_with fail
 refine(sV lv 44 w1 om).mono ?_;rintro e w2 ⟨⟨v2,rfl,qf⟩,ze⟩;obtain⟨a2,c2,rfl,xl⟩:=sY qf;have xq:=aI (aE xp.oQ ze)
 replace c1:=ctq ze c1
 replace M:=M.zL ze
 replace hS:=hS.zL ze
 have yp:Hid (p1=true->∃L U,v1=.slice L (ln (aS [q,R,f,P,l])) U/\Xs 1 dV w2 L (aS [q,R,f,P,l])):=λh=>by obtain⟨L,U,e,hx⟩:=yz.oQ h;exact⟨L,U,e,hx.zL ze⟩
 clear qf ze xp yz c7;obtain⟨Q,hQ⟩:=bQ (bG 44 lv);rw[←hQ]at xl u ym ⊢;clear hQ;go_wp2_with fail
 refine(cC Q a2 c2 w2 xl ym).mono ?_;rintro e w3 ⟨⟨v3,rfl,zj⟩,zf⟩;have xa:=aI zj;have zx:=aI (aE xq.oQ zf)
 replace c1:=ctq zf c1
 replace M:=M.zL zf
 replace hS:=hS.zL zf
 have yq:Hid (p1=true->∃L U,v1=.slice L (ln (aS [q,R,f,P,l])) U/\Xs 1 dV w3 L (aS [q,R,f,P,l])):=λh=>by obtain⟨L,U,e,hx⟩:=yp.oQ h;exact⟨L,U,e,hx.zL zf⟩
 clear zj zf xq yp xl;obtain⟨p2,qg⟩:∃p,p=j7 Q:=⟨_,rfl⟩;rw[←qg]at xa u ⊢;clear qg;go_wp2_with fail
 refine(ZX YY (some (Y bl (O+8))) (zv-8) w3 M om xm).mono ?_;rintro e F ⟨⟨v4,rfl,zk⟩,zg⟩;have zy:=aI zk;have yw:=aI (aE zx.oQ zg)
 replace c1:=ctq zg c1
 have zc:o9 D F s b ta tc:=hS.zL zg;have zs:Hid (p1=true->∃L U,v1=.slice L (ln (aS [q,R,f,P,l])) U/\Xs 1 dV F L (aS [q,R,f,P,l])):=λh=>by obtain⟨L,U,e,hx⟩:=yq.oQ h;exact⟨L,U,e,hx.zL zg⟩
 have zt:Hid (p2=true->∃L U,v3=.slice L (ln (aS Q)) U/\Xs 1 dV F L (aS Q)):=λh=>by obtain⟨L,U,e,hx⟩:=xa.oQ h;exact⟨L,U,e,hx.zL zg⟩
 clear zk zg zx yq xa M hS;obtain⟨ow,xj⟩:=bQ (fV YY);rw[←xj]at zy u ⊢;have yx:=aI xj;clear xj
 by_cases W:p1=true/\p2=true/\∃cs,ow=some cs
 · obtain⟨rfl,rfl,cs,rfl⟩:=W
   obtain⟨a5,c5,rfl,jk⟩:=zs.oQ rfl;obtain⟨aL,cL,zj,ql⟩:=zt.oQ rfl;obtain⟨wa,wl,wc,zk,yo,qk,xk⟩:=(zy.oQ cs rfl).e
   rcases jk with h|⟨g,oo,rfl,zi⟩
   · simp[aS]at h
   have j0:F.cell? (Y g oo)=some (I (aV q)):=by have:=zi 0 (by simp[aS]) 0 _ rfl;simpa[aS]using this
   have j1:F.cell? (Y g (oo+1))=some (I (aV R)):=by have:=zi 1 (by simp[aS]) 0 _ rfl;simpa[aS]using this
   have j2:F.cell? (Y g (oo+2))=some (I (aV f)):=by have:=zi 2 (by simp[aS]) 0 _ rfl;simpa[aS]using this
   have j3:F.cell? (Y g (oo+3))=some (I (aV P)):=by have:=zi 3 (by simp[aS]) 0 _ rfl;simpa[aS]using this
   have j4:F.cell? (Y g (oo+4))=some (I (aV l)):=by have:=zi 4 (by simp[aS]) 0 _ rfl;simpa[aS]using this
   have e5:ln (aS [q,R,f,P,l])=5:=rfl;rw[e5];clear e5 zi;obtain⟨jj,qm⟩:=AQ YY [[]] cs 1 0 yx.oQ.symm sm sm;obtain⟨x,hx⟩:=bQ (⟨nm,aV q,aV R,aV f,aV P,aV l,wa,wl,wc,aL,aS Q,cL⟩:Wx);have xn:Hid (rK (wL nm q R f P l Q cs) x):=by rw[Hid,hx];exact AW yo
   have qq:Hid (iL F x):=by
    rw[Hid,hx];refine⟨⟨qk,λy m=>(xk y m).1,ql⟩,⟨?_,λy m=>?_,?_,?_⟩,λy m=>(xk y m).2⟩
    · show(ln wl)<=1048576
      have:ln wl=ln cs:=by rw[←yo,List.length_map]
      omega
    · have:=qm y.l (by rw[←yo];exact List.mem_map_of_mem m)
      omega
    · show(ln (aS Q))<=1048576
      rw[eN];exact ym
    · show nm.size<=_
      omega
   replace c1:F.cell? (Y bl (O+1))=some (.string x.n):=by rw[hx];exact c1
   replace j0:F.cell? (Y g oo)=some (I x.q):=by rw[hx];exact j0
   replace j1:F.cell? (Y g (oo+1))=some (I x.s):=by rw[hx];exact j1
   replace j2:F.cell? (Y g (oo+2))=some (I x.f):=by rw[hx];exact j2
   replace j3:F.cell? (Y g (oo+3))=some (I x.b):=by rw[hx];exact j3
   replace j4:F.cell? (Y g (oo+4))=some (I x.l):=by rw[hx];exact j4
   replace zj:v3=.slice x.la (ln x.ll) x.lc:=by rw[hx];exact zj
   replace zk:v4=.slice x.wa (ln x.wl) x.wc:=by rw[hx];exact zk
   subst zj;subst zk;obtain⟨X,hX⟩:=bQ (wL nm q R f P l Q cs);have T:Hid (k8 s ws.tail=oI s X):=by rw[Hid,u.oQ,hX];rfl
   rw[←hX]at xn;obtain⟨d,i,kk,xx,xv⟩:=RW s.b X;have qw:=aI xx;have qt:=aI xv;obtain⟨yt,yu⟩:=BY s.b X;obtain⟨cd,xf⟩:=bQ (dF s.b X);rw[←xf]at yt yu;have zw:=aI xf.symm;have zx:Hid (aG w F):=yw.oQ;clear xf xx xv hX hx jj qm yo qk xk ql u zs zt zy yx jg jh jf ym xm yw
   go_upto_region 6 with fail
   refine ZC 6 32 34 [some 45,some 46,some 47,some 48,some 49,some 50,some 51,some 52,some 53,some 54,some 55,some 56,some 57,some 58,some 59,some 60,some 61,some 62,some 63,some 64,some 65,some 66,some 67,some 68,some 69,some 70,some 44,some 71,some 72,some 73,some 11,some 12,none,none] YR ZQ (NE D b x (sl bl O m zv) (sl g oo 5 c5) bl O g oo (dN s.b s.b.now (eY s.b X)) d i kk cd F.heap.size) (PfW6 d i kk cd) (GW6e F (dN s.b s.b.now (eY s.b X)) d i kk cd) NE.zL NE.loc NE.free ?step ?free ?g0 ?gf ?store ?fin
   case step=>
    intro ii o Z w' yl C G j;obtain⟨jp,jr,js,z3z⟩:=(zc.zL G).c;have z4z:=ctq G c1;have z5z:=ctq G j0;have z6z:=ctq G j1;have z7z:=ctq G j2;have z8z:=ctq G j3;have z9z:=ctq G j4
    match ii,yl with
    |1,_|2,_|3,_|5,_|6,_|8,_|9,_|11,_|12,_|14,_|15,_|17,_|18,_|20,_|21,_|24,_=>
     cases C
     simp[Region.binds,NE]at j
     simp only[aD,Act.put,j];gi_wp2;exact⟨_,by simp[aH,j],rfl,br _ _⟩
    |0,_|4,_|7,_|10,_|13,_|16,_|19,_|22,_|23,_=>
     cases C
     gi_wp2;exact⟨_,uhx,rfl,br _ _⟩
    |25,_=>
     cases C
     simp[Region.binds,NE]at j
     simp only[aD,Act.put,j];gi_wp2_with fail
     refine tqx ?_;refine(cw.2 (UI (zc.zL G).b ji.b (qq.oQ.zL G) xn.oQ)).mono ?_;rintro e w5 ⟨⟨b',rfl,H,J⟩,V⟩;rw[qw.oQ,zw.oQ];have zm:=aI (H);have zr:=aI (J.weak G.size);clear H J;gi_wp2;exact⟨_,by simp[aH,j],⟨b',rfl,zm.oQ,zr.oQ⟩,V⟩
    |26,_=>
     cases C
     obtain⟨b',xr,H,J⟩:=Zq j 25;have zm:=aI (H);have zr:=aI (J);clear H J j;simp only[aD,Act.put,xr];gi_wp2;exact⟨_,by simp[aH,xr],⟨b',rfl,zm.oQ,zr.oQ⟩,br _ _⟩
    |27,_=>
     cases C
     obtain⟨b',B,H,J⟩:=Zq j 26;have zm:=aI (H);have zr:=aI (J);clear H J j;simp only[aD,Act.put,B];gi_wp2;exact⟨_,by simp[aH,B],⟨b',by simp[aH,B],rfl,zm.oQ,zr.oQ⟩,br _ _⟩
    |28,_|29,_=>
     cases C
     obtain⟨b',B,H,J⟩:=Zq j 26;clear H J j;simp only[aD,Act.put,B];gi_wp2;exact⟨_,by simp[aH,B],rfl,br _ _⟩
    |30,_|31,_=>
     cases C
     gi_wp2;exact⟨_,uhx,⟨_,rfl,G.size,wnq w' _⟩,aC (br _ _) _⟩
    |q+32,h=>omega
   case free=>
    intro ii o Z w' t yl xg C ht htM a j;obtain⟨b',p,q,a⟩:=a;have B:=a.tt
    have xh:ii=28∨ii=29:=by
     simp[YR]at xg;omega
    clear a j
    rcases xh with rfl|rfl
    · simp at C
      subst C;simp only[aD,Act.put,B];gi_wp2;exact⟨gF d i kk,by simp[aH,B],rfl,trivial⟩
    · simp at C
      subst C;simp only[aD,Act.put,B];gi_wp2;exact⟨I cd,by simp[aH,B],rfl,trivial⟩
   case g0=>
    intro Z w' G hp;obtain⟨b',qx,qy,h1,h2⟩:=hp 27 dz rfl;obtain⟨p,ep,zp,S⟩:=hp 30 dz rfl;obtain⟨q,eq,zq,z⟩:=hp 31 dz rfl;exact⟨b',p,q,qx,qy,ep,eq,G,h1,h2,zp,zq,λ_=>S,λh=>absurd h dz,λ_=>z,λh=>absurd h dz⟩
   case gf=>
    intro t Z w' ii v xg a;obtain⟨b',p,q,a⟩:=a
    have xh:ii=28∨ii=29:=by
     simp[YR]at xg;omega
    rcases xh with rfl|rfl<;>exact⟨b',p,q,a.tt,a.v,a.vp,a.vq,a.bel,a.cnt,a.sp,a.zp,a.zq,a.p0,a.p1,a.q0,a.q1⟩
   case store=>
    intro t o Z w' h12 h15 C a j;obtain⟨b',p,q,a⟩:=a;have ht:t=32∨t=33:=om
    rcases ht with rfl|rfl
    · simp at C
      subst C;have xb:=a.v;have za:=a.vp;have S:=a.p0 rfl;obtain⟨jl,jm,jn⟩:=aM S;have jo:=jS S;have k1:=aP S 0 (I b'.now);have k2:=aP k1 1 (fs b');have k3:=aP k2 2 (hs b');have z:=a.q0 dz;have xi:q≠p:=λe=>by rw[e,S]at z;cases z
      have HQ:=aI (bF z (dJ w' p b') xi);have HP:=aI k3;have yy:Hid (dS F.heap.size (gI w' p b') b'):=a.sp.butT (dJ w' p b') S dz dz dz;have yv:Hid (aG F (gI w' p b')):=(dJ w' p b').under a.bel (nlq _) (λk e=>by rw[e];exact a.zp);have A:Hid _:=a;clear a j S z k1 k2 k3;simp only[aD,Act.put,xb,za];gi_wp2;exact⟨undef,by simp[aH,xb,za],b',p,q,A.oQ.tt,xb,za,A.oQ.vq,yv.oQ,A.oQ.cnt,yy.oQ,A.oQ.zp,A.oQ.zq,λh=>absurd h dz,λ_=>HP.oQ,λ_=>HQ.oQ,λh=>absurd h dz⟩
    · simp at C
      subst C;have xs:Z 28=gF d i kk:=j (eD 28) sm rfl dz rfl;have zb:=a.vq;have z:=a.q0 dz;obtain⟨jl,jm,jn⟩:=aM z;have jo:=jS z;have k1:=aP z 0 (I d);have k2:=aP k1 1 (I i);have k3:=aP k2 2 (I kk);have yk:aU (λr=>r=q) w' (((w'.setCell (Y q 0) (I d)).setCell (Y q 1) (I i)).setCell (Y q 2) (I kk)):=(((aU.refl (λr=>r=q) w').set (g:=q) rfl _ _).set (g:=q) rfl _ _).set (g:=q) rfl _ _;have N:=a.p1 dz;have xi:p≠q:=λe=>by rw[←e,N]at z;simp[Bk.obj]at z
      have HP:=aI (bF N yk xi);have HQ:=aI k3;have yy:Hid (dS F.heap.size (((w'.setCell (Y q 0) (I d)).setCell (Y q 1) (I i)).setCell (Y q 2) (I kk)) b'):=a.sp.butT yk z dz dz dz;have yv:Hid (aG F (((w'.setCell (Y q 0) (I d)).setCell (Y q 1) (I i)).setCell (Y q 2) (I kk))):=yk.under a.bel (nlq _) (λk e=>by rw[e];exact a.zq);have A:Hid _:=a;clear a j N z k1 k2 k3 yk;simp only[aD,Act.put,xs,zb];gi_wp2;exact⟨undef,by simp[aH,xs,zb],b',p,q,A.oQ.tt,A.oQ.v,A.oQ.vp,zb,yv.oQ,A.oQ.cnt,yy.oQ,A.oQ.zp,A.oQ.zq,λh=>absurd h dz,λ_=>HP.oQ,λh=>absurd h dz,λ_=>HQ.oQ⟩
   case fin=>
    intro Z w' a hp;obtain⟨b',p,q,a⟩:=a;have xt:Z 29=I cd:=hp 29 dz rfl;have za:=a.vp;have zb:=a.vq;have yj:=zc.zL a.bel;have xz:eI (λk=>k=D) w' (dN s.b s.b.now (eY s.b X)) b':=a.sp.at (λk e=>by rw[e];exact iB zc.o) a.cnt;have zn:=aI (yj.put xz);have zl:=aI ((aU.below (aE zx.oQ a.bel)).trans (dJ w' D b'));obtain⟨y0,y1,y2,y3⟩:=yj.c;have yf:=yj.fz;have N:=a.p1 dz;have qh:=a.q1 dz;obtain⟨u0,u1,u2⟩:=aM N;have xw:q≠D:=λe=>by have:=a.zq;have:=iB zc.o;omega
    have qi:=bF qh (dJ w' D b') xw;obtain⟨v0,v1,v2⟩:=aM qi;clear hp a yj xz N qh xw qi;simp only[lds,ldz,aD,Act.put];rw[xt,za,zb];clear xt za zb;generalize Z=Z
    by_cases zh:cd=0
    · have qa:(cd !=0)=false:=by simp[zh]
      obtain⟨qc,qz,ja,jb,jc,jd,je⟩:=qt.oQ (by rw[zw.oQ];exact zh);obtain⟨s0,zz⟩:∃s,s=dH d:=⟨_,rfl⟩;obtain⟨s1,yb⟩:∃s,s=(⟨#[108,97,116,101,32]⟩:Ba)++s0:=⟨_,rfl⟩;obtain⟨s2,yc⟩:∃s,s=s1++(⟨#[32,119,97,121,32]⟩:Ba):=⟨_,rfl⟩;obtain⟨s3,yd⟩:∃s,s=dH i:=⟨_,rfl⟩;obtain⟨s4,ye⟩:∃s,s=s2++s3:=⟨_,rfl⟩;obtain⟨s5,yg⟩:∃s,s=s4++(⟨#[32,108,101,118,101,108,32]⟩:Ba):=⟨_,rfl⟩;obtain⟨s6,yh⟩:∃s,s=dH kk:=⟨_,rfl⟩;obtain⟨s7,yi⟩:∃s,s=s5++s6:=⟨_,rfl⟩;have jt:s0.size<=2000001:=by rw[zz];exact bD ja
      have ju:s1.size=5+s0.size:=by rw[yb,bsz];rfl
      have jv:s2.size=s1.size+5:=by rw[yc,bsz];rfl
      have jw:s3.size<=2000001:=by rw[yd];exact bD jc
      have jx:s4.size=s2.size+s3.size:=by rw[ye,bsz]
      have jy:s5.size=s4.size+7:=by rw[yg,bsz];rfl
      have jz:s6.size<=2000001:=by rw[yh];exact bD je
      have ka:s7.size=s5.size+s6.size:=by rw[yi,bsz]
      have gs1:¬9223372036854775807<5+s0.size:=om
      have gs2:¬9223372036854775807<s1.size+5:=om
      have gs4:¬9223372036854775807<s2.size+s3.size:=om
      have gs5:¬9223372036854775807<s4.size+7:=om
      have gs7:¬9223372036854775807<s5.size+s6.size:=om
      have zu:Hid (oI s X=(⟨dN s.b s.b.now (eY s.b X),s.t⟩,s7)):=by
       rw[Hid,oI,zw.oQ,if_pos zh,qc,←zz,←yb,←yc,←yd,←ye,←yg,←yh,←yi]
      have qn:=aI zz;have fs1:=yb.symm;have fs2:=yc.symm;have qo:=aI yd;have fs4:=ye.symm;have fs5:=yg.symm;have qp:=aI yh;have fs7:=yi.symm;clear qc zz jt yb ju yc jv yd jw ye jx yg jy yh jz yi ka;subst zh;gi_wp2_with fail
      go_upto_region 10 with fail
      obtain⟨W7,xc⟩:=cI (((w'.setCell (Y D 0) (I b'.now)).setCell (Y D 1) (fs b')).setCell (Y D 2) (hs b'));have yr:gI w' D b'=W7:=xc;rw[yr]at v0 v1 v2 zn zl;rw[xc];clear xc yr y0 y1 y2 y3 yf u0 u1 u2;refine pG 14 [some 82,some 83,some 84,some 85,some 86,some 87,some 88,some 89,some 90,some 91,some 92,some 93,some 94,some 95] (EA q d i kk s0 s1 s2 s3 s4 s5 s6 s7) (λ_ _ _ _ h _=>h) ?step ?fin
      case step=>
       intro ii o Z w' yl C G j;have jp:=ctq G v0;have jr:=ctq G v1;have js:=ctq G v2
       match ii,yl with
       |1,_|3,_|4,_|6,_|8,_|9,_|11,_|13,_=>
        cases C
        simp[Region.binds,EA]at j
        simp only[aD,Act.put,j];gi_wp2;exact⟨_,by simp[aH,j],rfl,br _ _⟩
       |0,_|5,_|10,_=>
        cases C
        gi_wp2;exact⟨_,uhx,rfl,br _ _⟩
       |2,_=>
        cases C
        simp[Region.binds,EA]at j
        simp only[aD,Act.put,j];gi_wp2_with fail
        refine tqx ?_;refine(cw.2 (mT d w' qz om)).mono ?_;rintro e w5 ⟨rfl,V⟩;rw[←qn.out];gi_wp2;exact⟨_,by simp[aH,j],rfl,V⟩
       |7,_=>
        cases C
        simp[Region.binds,EA]at j
        simp only[aD,Act.put,j];gi_wp2_with fail
        refine tqx ?_;refine(cw.2 (mT i w' jb om)).mono ?_;rintro e w5 ⟨rfl,V⟩;rw[←qo.out];gi_wp2;exact⟨_,by simp[aH,j],rfl,V⟩
       |12,_=>
        cases C
        simp[Region.binds,EA]at j
        simp only[aD,Act.put,j];gi_wp2_with fail
        refine tqx ?_;refine(cw.2 (mT kk w' jd om)).mono ?_;rintro e w5 ⟨rfl,V⟩;rw[←qp.out];gi_wp2;exact⟨_,by simp[aH,j],rfl,V⟩
       |q+14,h=>omega
      case fin=>
       intro Z w8 G hp;have xu:Z 13=.string s7:=hp 13 dz;have qu:Hid _:=zn.oQ.zL G;have qr:Hid _:=zl.oQ.trans (aU.below G);clear hp G zn zl;simp only[lds,ldz,aD,Act.put];rw[xu];clear xu;generalize Z=Z;gi_wp2_with fail
       go_wp2
       go_ret;exact⟨⟨_,_,_,by rw[T.oQ,zu.oQ];exact qu.oQ⟩,by rw[T.oQ,zu.oQ];rfl,qr.oQ⟩
    · have qa:(cd !=0)=true:=by simp[zh]
      have zu:Hid (oI s X=(⟨dN s.b s.b.now (eY s.b X),s.t⟩,jC cd)):=by rw[Hid,oI,zw.oQ,if_neg zh]
      gi_wp2_with fail
      go_wp2_with fail
      refine(CV cd _ yt yu).mono ?_;rintro e w9 ⟨rfl,xe⟩;have qv:Hid _:=zn.oQ.zL xe;have qs:Hid _:=zl.oQ.trans (aU.below xe);clear xe zn zl;go_wp2
      go_ret;exact⟨⟨_,_,_,by rw[T.oQ,zu.oQ];exact qv.oQ⟩,by rw[T.oQ,zu.oQ];rfl,qs.oQ⟩
 · have T:Hid (k8 s ws.tail=(s,dR)):=by
    rw[Hid,u.oQ]
    split
    · rename_i h
      rw[bat]at h
      split
      · exact absurd ⟨h.1,h.2,_,rfl⟩ W
      · rfl
    · rfl
   clear u zs zt zy yx
   cases p1<;>cases p2<;>cases ow
   all_goals first
    |exact absurd ⟨rfl,rfl,_,rfl⟩ W
    |(clear W;go_wp2;go_ret;exact⟨⟨_,_,_,by rw[T.oQ];exact zc⟩,by rw[T.oQ];rfl,aU.below yw.oQ⟩)
variable {a:List Ba}
theorem xR {s:St}(h:¬8<=ln a):k8 s a=(s,dR):=by
 unfold k8;split;·simp at h
 ·rfl
theorem YL (D:Nat) (w:Wd) (s:St) (b:Bk) (ta:Oa) (L H:Nat) (l:o9 D w s b ta L) (F:jF H s) (_hkk:H<=1000) (n:Ba) (a:List Ba) (i c d:Nat) (o:Xs 1 eE w (some (Y i c)) (n::a)) (r:ln a+1<=d) (t:ln a+1<=1048570) (G:∀x∈n::a,x.size<=1048575) (K:n.toList=vU):
 aW 23 #[E D 0,.slice (some (Y i c)) (ln a+1) d] w λe w'=>RO D w (aX s (n::a)) e w':=by
 have A:=iC o 0 n rfl;rw[naz]at A;have p:Xs 1 eE w (some (Y i (c+1))) a:=jN o 1 [n] _ [] sm rfl;go_enter Tryz.func23,Tryz.ntmps23;go_upto_region 1 with fail;go_cut [5,6] (λQ R M=>R=.bool (j7 a)/\Hid (j7 a=true->∃J O,Q=.slice J (ln (aS a)) O/\Xs 1 dV M J (aS a))/\aG w M)
 case first=>
  by_cases B:d=1
  ·have ha:a=[]:=enl om;subst ha;subst B;go_wp2_with fail;refine(cC [] (some (Y i c)) 0 w (.inl rfl) sm).mono ?_;rintro e w1 ⟨⟨P,rfl,f⟩,h⟩;have g:=aI f;clear f;go_wp2;go_meet;exact⟨rfl,g,h⟩
  ·go_wp2_with fail;refine(cC a (some (Y i (c+1))) (d-1) w p om).mono ?_;rintro e w1 ⟨⟨P,rfl,f⟩,h⟩;have g:=aI f;clear f;go_wp2;go_meet;exact⟨rfl,g,h⟩
 case rest=>
  obtain⟨rfl,HV,k⟩:=hcut;replace o:=o.zL k;replace A:=ctq k A;replace l:=l.zL k;have v:=aI k;clear p k;by_cases u:8<=ln a
  ·have j:Hid (aX s (n::a)=k8 s a):=by rw[Hid,aX,K];rfl
   have C:decide ((8:Int)<(ln a:Int)+1)=true:=by rw[dte];omega
   have N:=aI u;clear u;go_wp2_with fail;refine(UE D wc s b ta L H l F (n::a) i c d o (by have:=N.oQ;simp;omega) (by simpa using r) (by simpa using t) G).mono ?_;rintro e w2 ⟨⟨b2,ta2,tc2,m⟩,rfl,q⟩;have y:=aI ((aU.below v.oQ).trans q);have z:=aI m;clear q l v m;go_wp2;go_ret;exact⟨⟨_,_,_,by rw[j.oQ];exact z.oQ⟩,by rw[j.oQ];rfl,y.oQ⟩
  ·have j:Hid (aX s (n::a)=(s,dR)):=by rw[Hid,←xR (s:=s) u,aX,K];rfl
   have C:decide ((8:Int)<(ln a:Int)+1)=false:=by rw[dfi];omega
   clear u;go_wp2;go_ret;exact⟨⟨_,_,_,by rw[j.oQ];exact l⟩,by rw[j.oQ];rfl,aU.below v.oQ⟩
