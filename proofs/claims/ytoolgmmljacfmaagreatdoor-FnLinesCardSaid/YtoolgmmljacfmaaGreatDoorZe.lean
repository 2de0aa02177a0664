import Derived.Test.YtoolgmmljacfmaaGreatDoorZa
import Derived.Recover
set_option maxRecDepth 100000
set_option maxHeartbeats 8000000
open List renaming length → ln
open Go.Proofs.Tryz Go.RowKit
namespace Go.Proofs.YtoolgmmljacfmaaGreatDoor
open Go.BigFrame
variable {w w':Wd}{n e sz m o z:Nat}{v:Va}{xs:List Va}{F S':Nat → Prop}{s:St}{b l r b':Bk}{x:Ba}
theorem xZ (h:w.ownsRow n e sz v m xs)(j:∀k,v.ownBlock=some k->w'.heap[k]?=w.heap[k]?):w'.ownsRow n e sz v m xs:=by
 obtain⟨c,h|⟨g,a,b,rfl,d,f,i⟩⟩:=h;·exact⟨c,.inl h⟩
 ·exact⟨c,.inr ⟨g,a,b,rfl,d,(j g rfl).trans f,i⟩⟩
structure lH (F:Nat->Prop)(S:Nat)(w:World)(s:St)(b:Bk)(v:Value):Prop where
 o:w.heap[S]?=some (.cells #[.int .i64 b.now,.slice b.fa b.fl.length b.fc,.slice b.ha b.hl.length b.hc,v] 55)
 h:w.ownsRow 8 91 6 v s.t.length (fG s.t)
 b:eI (λk=>k=S∨v.ownBlock=some k∨¬F k) w s.b b
 fS:F S
 fh:∀k,v.ownBlock=some k->F k
 fl:∀k,F k->8<=k/\k<w.heap.size
 e:zP w
theorem lH.zL {w w':Wd}(h:lH F n w s b v)(a:aG w w'):lH F n w' s b v:=
 ⟨bJ h.o a,dC h.h a,h.b.zL a,h.fS,h.fh,λk c=>⟨(h.fl k c).1,nll (h.fl k c).2 a.size⟩,h.e.zL a⟩
theorem eI.mono (h:eI F w l b)(d:∀k,S' k->F k):eI S' w l b:=⟨h.c,λw' a=>h.i w' (a.wide d),h.f1,h.f2⟩
theorem lH.out (h:lH F n w s b v)(c:aU (λk=>¬F k) w w')(d:zP w'):lH F n w' s b v:=
 ⟨bF h.o c (λe=>e h.fS),xZ h.h (λk a=>c.block k (h.fl k (h.fh k a)).2 (λe=>e (h.fh k a))),h.b.but (c.wide (λ_ a=>.inr (.inr a))),h.fS,h.fh,λk a=>⟨(h.fl k a).1,nll (h.fl k a).2 c.size⟩,d⟩
theorem lH.c (h:lH F n w s b v):w.cell? (Y n 0)=some (I b.now)/\w.cell? (Y n 1)=some (.slice b.fa (ln b.fl) b.fc)/\w.cell? (Y n 2)=some (.slice b.ha (ln b.hl) b.hc)/\w.cell? (Y n 3)=some v:=⟨aB h.o rfl,aB h.o rfl,aB h.o rfl,aB h.o rfl⟩
theorem lH.fz (h:lH F n w s b v):∀i,w.frozen? (Y n i)=false:=λi=>by simp[World.frozen?,h.o]
theorem lH.hv (h:lH F n w s b v):∃ta a,v=.slice ta (ln s.t) a/\jG w ta s.t:=by
 obtain⟨ta,a,e,hx⟩:=(aN.of_owns h.h).slice;exact⟨ta,a,e,hx⟩
theorem lH.ne (h:lH F n w s b v):v.ownBlock≠some n:=λe=>by
 obtain⟨_,⟨a,_⟩|⟨g,cap,cur,a,_,c,_⟩⟩:=h.h;·rw[a]at e;simp[Value.ownBlock]at e
 ·rw[a]at e;simp[Value.ownBlock]at e;rw[e,h.o]at c;simp at c
theorem lH.neS (h:lH F sz w s b v)(a:w.cell? (Y m o)=some (.string x)):m≠sz:=λe=>by
 subst e;obtain⟨ta,tc,rfl,_⟩:=h.hv;simp only[World.cell?,h.o]at a;match o,a with
 |0,a=>simp at a
 |1,a=>simp at a
 |2,a=>simp at a
 |3,a=>simp at a
 |n+4,a=>simp at a
theorem lH.nil (h:lH F n w s b v):lH F n (w.setCell (Y n 3) (ms)) ⟨s.b,[]⟩ b (ms):=by
 have c:aU (λk=>k=n) w (w.setCell (Y n 3) (ms)):=(aU.refl (λk=>k=n) w).set (g:=n) rfl _ _;have d:aU (λk=>k=n∨v.ownBlock=some k∨¬F k) w (w.setCell (Y n 3) (ms)):=c.wide (λ_ e=>.inl e);refine⟨aP h.o 3 _,⟨rfl,.inl ⟨rfl,rfl⟩⟩,(h.b.but d).mono (λk a=>?_),h.fS,λk a=>by simp[Value.ownBlock]at a,λk a=>⟨(h.fl k a).1,nll (h.fl k a).2 c.size⟩,h.e.but c (λk e=>by rw[e];exact(h.fl n h.fS).1)⟩;rcases a with a|a|a;·exact .inl a
 ·simp[Value.ownBlock]at a
 ·exact .inr (.inr a)
def ImR (F:Nat->Prop)(S:Nat)(w:World)(r:St×ByteArray)(e:Ending)(w':World):Prop:=(∃F' b' v',lH F' S w' r.1 b' v'/\∀k,F' k->F k∨w.heap.size<=k)/\e=rt (.string r.2)/\aU F w w'
def XT (F:Nat->Prop)(S:Nat)(w:World)(s:St)(r:St×ByteArray)(e:Ending)(w':World):Prop:=(r=(s,dR)/\e=V1/\aG w w')∨ImR F S w r e w'
theorem lH.put (h:lH F sz w s b v)(j:sz<z)(q:∀k,v.ownBlock=some k->k<z)(m:eI (λk=>k<z) w r b'):lH (λk=>F k∨(z<=k/\k<w.heap.size)) sz (gI w sz b') ⟨r,s.t⟩ b' v:=by
 have d:=dJ w sz b';have l:(gI w sz b').heap.size=w.heap.size:=by simp[gI,World.setCell]
 have p:∀k,k=sz∨v.ownBlock=some k∨¬(F k∨(z<=k/\k<w.heap.size))->k<w.heap.size->k<z:=λk a A=>by
  rcases a with rfl|a|a;·exact j
  ·exact q k a
  ·rcases Nat.lt_or_ge k z with g|g;·exact g
   ·exact absurd (.inr ⟨g,A⟩) a
 refine⟨?_,jI h.h (λk cs _ n=>d.block k (iB n) (λe=>?_)),⟨m.c,λB f=>m.i B ?_,m.f1,m.f2⟩,.inl h.fS,λk a=>.inl (h.fh k a),λk a=>?_,h.e.but d (λk e=>by rw[e];exact(h.fl sz h.fS).1)⟩;·exact aP (aP (aP h.o 0 _) 1 _) 2 _
 ·have u:k=sz:=e;subst u;rw[h.o]at n;simp at n
 ·have x:aU (λk=>k<z) w (gI w sz b'):=d.wide (λk e=>by rw[e];exact j);refine x.trans ⟨f.os,f.tape,f.output,f.size,λk a y=>f.block k a (λe=>y (p k e (by rw[←l];exact a)))⟩
 ·rw[l];rcases a with a|a;·exact h.fl k a
  ·exact⟨by have:=(h.fl sz h.fS).1;omega,a.2⟩
theorem lH.fit (h:lH F n w s b v):n<w.heap.size/\∀k,v.ownBlock=some k->k<w.heap.size:=⟨iB h.o,λk a=>(h.fl k (h.fh k a)).2⟩
theorem uO (F:Nat->Prop)(S:Nat)(w:Wd)(s:St)(b:Bk)(v:Va)(y:lH F S w s b v)(z:Nat)(m:S<z)(o:∀k,v.ownBlock=some k->k<z)(r b':Bk)(n:eI (λk=>k<z) w r b')(c:Int)(u:0<=c)(x:c<=2000000):
 aW 80 #[E S 0,b'.val,I c] w λe w'=>((∃p b' B,lH p S w' ⟨r,s.t⟩ b' B/\∀k,p k->F k∨z<=k)/\e=rt (.string (jC c)))/\aU (λk=>k=S) w w':=by
 have d:aG w (w.alloc b'.obj):=aC (br _ _) _;have a:=(y.zL d);have HP:=aI (a.put m o (n.zL d));have i:Hid (aU (λk=>k=S) w (gI (w.alloc b'.obj) S b')):=(aU.below d).trans (dJ _ S b');obtain⟨W0,g⟩:=cI (w.alloc b'.obj);rw[g]at a HP i;obtain⟨c0,c1,c2,c3⟩:=a.c;have cf:=a.fz;have q:W0.heap[w.heap.size]?=some b'.obj:=by rw[←g];exact wnq w _
 obtain⟨k0,k1,k2⟩:=aM q;clear d a q;go_enter Tryz.func80,Tryz.ntmps80;go_wp2_with fail;refine(wD c _ HP.oQ.e u x).mono ?_;rintro e w2 ⟨rfl,f⟩;have l:Hid _:=HP.oQ.zL f;have j:Hid _:=i.oQ.trans (aU.below f);clear f HP i;go_wp2;go_ret;exact⟨⟨⟨_,_,_,l.oQ,λk A=>A.elim .inl (λh=>.inr h.1)⟩,rfl⟩,j.oQ⟩
variable {S a Z:Nat}{f:Bk}{h:Va}{nm:Ba}{g:Bool}{c:Int}
def IH2 (S:Nat)(b:Bk)(vw:Value)(bl off:Nat)(nm:ByteArray)(tk:Bool)(s':Bk)(c:Int)(Z:Nat)(j:Nat)(v:Value)(w:World):Prop:=
 match j with
 |0|1|2|3=>v=(E S 0)
 |4=>v=b.val
 |5=>v=vw
 |6=>v=(E bl off)
 |7=>v=.string nm
 |8=>v=.bool tk
 |9=>∃b':Bk,v=.tuple #[b'.val,I c]/\eI (λk=>k<Z) w s' b'
 |10=>∃b':Bk,v=b'.val/\eI (λk=>k<Z) w s' b'
 |11=>v=I c
 |_=>True
theorem IH2.zL (j:Nat)(v:Va)(w w':Wd)(d:IH2 S b h e a nm g f c Z j v w)(l:aG w w'):IH2 S b h e a nm g f c Z j v w':=by
 unfold IH2 at*;split at d
 all_goals first
  |exact d
  |(obtain⟨b',i,k⟩:=d;exact⟨b',i,k.zL l⟩)
theorem GE (F:Nat->Prop)(S:Nat)(w:Wd)(s:St)(b:Bk)(v:Va)(m:lH F S w s b v)(kk:Nat)(X:jF kk s)(a:List Ba)(ao:Oa)(x:Nat)(hX:Xs 1 eE w ao a)(took:Bool):
 aW 82 #[E S 0,.slice ao (ln a) x,.bool took] w λe w'=>XT F S w s (n9 took s a) e w':=by
 by_cases N:ln a=1
 ·obtain⟨nm,rfl⟩:∃nm,a=[nm]:=leo.1 N;rcases hX with h|⟨U,n,rfl,H⟩;·cases h
  have c1:w.cell? (Y U n)=some (.string nm):=by have:=H 0 sm 0 _ rfl;simpa using this
  clear N H;obtain⟨D,G⟩:=pC s.b nm;obtain⟨c,i⟩:=cI (cG s.b nm);have M:Hid (n9 took s [nm]=(⟨dN s.b s.b.now (dI s.b nm took),s.t⟩,jC c)):=by rw[←i];rfl
  rw[i]at D G;have Q:=aI i;have r:Hid (aU F w w):=aU.refl _ _;clear i;go_enter func82,ntmps82;go_wp2_with (go_at_call 45;refine(gQ _).mono ?_;rintro e w' ⟨⟨u,rfl⟩,K⟩;rw[K];clear K);refine pG 12 [some 11,some 12,some 13,some 14,some 15,some 16,some 17,some 18,some 19,some 20,some 21,some 22] (IH2 S b (sl U n 1 x) U n nm took (dN s.b s.b.now (dI s.b nm took)) c w.heap.size) IH2.zL ?step ?fin
  case step=>
   intro ii o L w' W J g f;obtain⟨z0z,z1z,z2z,z3z⟩:=(m.zL g).c;have z4z:=ctq g c1;match ii,W with
   |2,_|3,_|4,_|6,_|7,_=>
    cases J;simp[Region.binds,IH2]at f;simp only[aD,Act.put,f];gi_wp2;exact⟨_,by simp[aH,f],rfl,br _ _⟩
   |0,_|1,_|5,_|8,_=>
    cases J;gi_wp2;exact⟨_,uhx,rfl,br _ _⟩
   |9,_=>
    cases J;simp[Region.binds,IH2]at f;simp only[aD,Act.put,f];gi_wp2_with fail;refine tqx ?_;refine(cw.2 (SE (S':=λk=>k<w.heap.size) (m.e.zL g).l (m.zL g).b X.b nm took (λk e=>nll e g.size))).mono ?_;rintro e w5 ⟨⟨b',rfl,d⟩,V⟩;have j:=aI d;clear d;rw[Q.oQ];gi_wp2;exact⟨_,by simp[aH,f],⟨b',rfl,j.oQ⟩,V⟩
   |10,_=>
    cases J;obtain⟨b',y,d⟩:=Zq f 9;have j:=aI d;clear f d;simp only[aD,Act.put,y];gi_wp2;exact⟨_,by simp[aH,y],⟨b',rfl,j.oQ⟩,br _ _⟩
   |11,_=>
    cases J;obtain⟨b',y,d⟩:=Zq f 9;have j:=aI d;clear f d;simp only[aD,Act.put,y];gi_wp2;exact⟨_,by simp[aH,y],rfl,br _ _⟩
   |q+12,h=>omega
  case fin=>
   intro L w8 g O;have e0:L 0=(E S 0):=O 0 dz;obtain⟨b',eb,d⟩:=O 10 dz;have ec:L 11=I c:=O 11 dz;have A:=m.zL g;have p:=aI (r.oQ.trans (aU.below g));have j:=aI d;clear O g d;simp only[lds,ldz,aD,Act.put];rw[e0,eb,ec];clear e0 eb ec;generalize L=L;gi_wp2_with fail;refine tqx ?_;refine(cw.2 (uO F S w8 _ b _ A w.heap.size m.fit.1 m.fit.2 _ b' j.oQ c D G)).mono ?_;rintro e w9 ⟨⟨⟨Z,b9,v9,B,z⟩,rfl⟩,C⟩;have T:=aI B;have R:Hid (∀k,Z k->F k∨w.heap.size<=k):=λk hk=>(z k hk).elim .inl (λh=>.inr (nlt r.oQ.size h));have P:Hid (aU F w w9):=p.oQ.trans (C.wide (λk e=>by rw[e];exact m.fS));clear B C p j A z;gi_wp2_with fail;go_wp2;go_ret;exact .inr ⟨⟨Z,b9,v9,by rw[M.oQ];exact T.oQ,R.oQ⟩,by rw[M.oQ];rfl,P.oQ⟩
 ·have M:Hid (n9 took s a=(s,dR)):=xV N;have hl':((ln a:Int)==1)=false:=by rw[bfn];omega
  clear N;go_enter func82,ntmps82;go_wp2_with (go_at_call 45;refine(jU _).mono ?_;rintro e w' ⟨rfl,rfl⟩);exact⟨rfl,.inl ⟨M.oQ,rfl,br _ _⟩⟩
theorem TO (F:Nat->Prop)(S:Nat)(w:Wd)(s:St)(b:Bk)(v:Va)(k:lH F S w s b v)(i:Nat)(h:jF i s)(a:List Ba)(g:Oa)(c:Nat)(l:Xs 1 eE w g a):
 aW 38 #[E S 0,.slice g (ln a) c] w λe w'=>XT F S w s (n9 true s a) e w':=by
 go_enter func38,ntmps38;go_wp2_with fail;refine(GE F S w s b v k i h a g c l true).mono ?_;rintro e w' (⟨d,rfl,f⟩|⟨d,rfl,f⟩)
 ·have H:=aI d;clear d;go_wp2;exact⟨rfl,.inl ⟨H.oQ,rfl,f⟩⟩
 ·have H:=aI d;have j:=aI f;clear d f;go_wp2;go_ret;exact .inr ⟨H.oQ,rfl,j.oQ⟩
theorem GP (F:Nat->Prop)(S:Nat)(w:Wd)(s:St)(b:Bk)(v:Va)(k:lH F S w s b v)(i:Nat)(h:jF i s)(a:List Ba)(g:Oa)(c:Nat)(l:Xs 1 eE w g a):
 aW 39 #[E S 0,.slice g (ln a) c] w λe w'=>XT F S w s (n9 false s a) e w':=by
 go_enter func39,ntmps39;go_wp2_with fail;refine(GE F S w s b v k i h a g c l false).mono ?_;rintro e w' (⟨d,rfl,f⟩|⟨d,rfl,f⟩)
 ·have H:=aI d;clear d;go_wp2;exact⟨rfl,.inl ⟨H.oQ,rfl,f⟩⟩
 ·have H:=aI d;have j:=aI f;clear d f;go_wp2;go_ret;exact .inr ⟨H.oQ,rfl,j.oQ⟩
variable {g:Va}
def IA4 (S:Nat)(b:Bk)(vw:Value)(bl off:Nat)(nm:ByteArray)(tv:Value)(s':Bk)(c:Int)(Z:Nat)(j:Nat)(v:Value)(w:World):Prop:=
 match j with
 |0|1|2|3=>v=(E S 0)
 |4=>v=b.val
 |5=>v=vw
 |6=>v=(E bl off)
 |7=>v=.string nm
 |8=>v=tv
 |9=>∃b':Bk,v=.tuple #[b'.val,I c]/\eI (λk=>k<Z) w s' b'
 |10=>∃b':Bk,v=b'.val/\eI (λk=>k<Z) w s' b'
 |11=>v=I c
 |_=>True
theorem IA4.zL (j:Nat)(v:Va)(w w':Wd)(d:IA4 S b h e a nm g f c Z j v w)(l:aG w w'):IA4 S b h e a nm g f c Z j v w':=by
 unfold IA4 at*;split at d
 all_goals first
  |exact d
  |(obtain⟨b',i,k⟩:=d;exact⟨b',i,k.zL l⟩)
theorem NP (F:Nat->Prop)(S:Nat)(w:Wd)(s:St)(b:Bk)(v:Va)(d:lH F S w s b v)(kk:Nat)(T:jF kk s)(a:List Ba)(ao:Oa)(G:Nat)(hX:Xs 1 eE w ao a)(hkk:kk<=1000):
 aW 37 #[E S 0,.slice ao (ln a) G] w λe w'=>XT F S w s (rW s a) e w':=by
 by_cases hl:ln a=1
 ·obtain⟨nm,rfl⟩:∃nm,a=[nm]:=leo.1 hl;rcases hX with h|⟨X,r,rfl,Q⟩;·cases h
  have D:w.cell? (Y X r)=some (.string nm):=by have:=Q 0 sm 0 _ rfl;simpa using this
  clear hl Q;obtain⟨ta,tc,rfl,ze⟩:=d.hv;obtain⟨q0,q1,q2,q3⟩:=d.c;have yf:=d.fz;have m:aU (λk=>k=S) w (w.setCell (Y S 3) (ms)):=(aU.refl (λk=>k=S) w).set (g:=S) rfl _ _;have C:Hid (jG (w.setCell (Y S 3) (ms)) ta s.t):=(aN.of_owns (xZ d.h (λk Z=>m.block k (d.fit.2 k Z) (λe=>d.ne (by rw[Z];exact congrArg some e))))).xs;have A:=d.nil;have z:=m.cell (p:=(Y X r)) (d.neS D) D;clear ze;obtain⟨O,P⟩:=CD s.b nm s.t;obtain⟨c,n⟩:=cI (dX s.b nm s.t);have W:Hid (rW s [nm]=(⟨dN s.b s.b.now (gA s.b nm s.t),[]⟩,jC c)):=by rw[←n];rfl
  rw[n]at O P;have zb:=aI n;have y:Hid (aU F w (w.setCell (Y S 3) (ms))):=m.wide (λk e=>by rw[e];exact d.fS);clear n;go_enter Tryz.func37,Tryz.ntmps37;go_wp2_with (go_at_call 45;refine(gQ _).mono ?_;rintro e w' ⟨⟨u,rfl⟩,U⟩;rw[U];clear U);go_upto_region 4 with fail;obtain⟨W1,M⟩:=cI (w.setCell (Y S 3) (ms));rw[M]at C A z y ⊢;clear M q0 q1 q2 q3 yf m d D;have d:=A;have D:=z;clear z A;refine pG 12 [some 17,some 18,some 19,some 20,some 21,some 22,some 23,some 24,some 25,some 26,some 27,some 28] (IA4 S b (sl X r 1 G) X r nm (.slice ta (ln s.t) tc) (dN s.b s.b.now (gA s.b nm s.t)) c W1.heap.size) IA4.zL ?step ?fin
  case step=>
   intro ii o V w' zg R i j;obtain⟨z0z,z1z,z2z,z3z⟩:=(d.zL i).c;have z4z:=ctq i D;match ii,zg with
   |2,_|3,_|4,_|6,_|7,_=>
    cases R;simp[Region.binds,IA4]at j;simp only[aD,Act.put,j];gi_wp2;exact⟨_,by simp[aH,j],rfl,br _ _⟩
   |0,_|1,_|5,_|8,_=>
    cases R;gi_wp2;exact⟨_,uhx,rfl,br _ _⟩
   |9,_=>
    cases R;simp[Region.binds,IA4]at j;simp only[aD,Act.put,j];gi_wp2_with fail;refine tqx ?_;refine(cw.2 (OG (S':=λk=>k<W1.heap.size) (d.e.zL i).l (d.zL i).b T.b nm s.t ta tc (C.oQ.zL i) (by have:=T.t;omega) (λk e=>nll e i.size))).mono ?_;rintro e w5 ⟨⟨b',rfl,f⟩,zf⟩;have x:=aI f;clear f;rw[zb.oQ];gi_wp2;exact⟨_,by simp[aH,j],⟨b',rfl,x.oQ⟩,zf⟩
   |10,_=>
    cases R;obtain⟨b',H,f⟩:=Zq j 9;have x:=aI f;clear j f;simp only[aD,Act.put,H];gi_wp2;exact⟨_,by simp[aH,H],⟨b',rfl,x.oQ⟩,br _ _⟩
   |11,_=>
    cases R;obtain⟨b',H,f⟩:=Zq j 9;have x:=aI f;clear j f;simp only[aD,Act.put,H];gi_wp2;exact⟨_,by simp[aH,H],rfl,br _ _⟩
   |q+12,h=>omega
  case fin=>
   intro V w8 i hp;have e0:V 0=(E S 0):=hp 0 dz;obtain⟨b',eb,f⟩:=hp 10 dz;have ec:V 11=I c:=hp 11 dz;have K:=d.zL i;have B:=aI (y.oQ.trans (aU.below i));have x:=aI f;clear hp i f;simp only[lds,ldz,aD,Act.put];rw[e0,eb,ec];clear e0 eb ec;generalize V=V;gi_wp2_with fail;refine tqx ?_;refine(cw.2 (uO F S w8 _ b _ K W1.heap.size d.fit.1 d.fit.2 _ b' x.oQ c O P)).mono ?_;rintro e w9 ⟨⟨⟨F9,b9,v9,L,J⟩,rfl⟩,N⟩;have zd:=aI L;have zc:Hid (∀k,F9 k->F k∨w.heap.size<=k):=λk Z=>(J k Z).elim .inl (λh=>.inr (nlt y.oQ.size h));have za:Hid (aU F w w9):=B.oQ.trans (N.wide (λk e=>by rw[e];exact d.fS));clear L N B x K J;gi_wp2_with fail;go_wp2;go_ret;exact .inr ⟨⟨F9,b9,v9,by rw[W.oQ];exact zd.oQ,zc.oQ⟩,by rw[W.oQ];rfl,za.oQ⟩
 ·have W:Hid (rW s a=(s,dR)):=BR hl;have hl':((ln a:Int)==1)=false:=by rw[bfn];omega
  clear hl;go_enter Tryz.func37,Tryz.ntmps37;go_wp2_with (go_at_call 45;refine(jU _).mono ?_;rintro e w' ⟨rfl,rfl⟩);exact⟨rfl,.inl ⟨W.oQ,rfl,br _ _⟩⟩
variable {a:List Ba}{x:Int}
theorem NS (h:¬(ln a)=1):mZ s a=(s,dR):=ET (λg=>h g.1)
def IT2 (S:Nat)(b:Bk)(vw:Value)(bl off:Nat)(nm:ByteArray)(x:Int)(s':Bk)(c:Int)(Z:Nat)(j:Nat)(v:Value)(w:World):Prop:=
 match j with
 |0|1|2|3=>v=(E S 0)
 |4=>v=b.val
 |5=>v=vw
 |6=>v=(E bl off)
 |7=>v=.string nm
 |8=>v=I x/\0<=x
 |9=>∃b':Bk,v=.tuple #[b'.val,I c]/\eI (λk=>k<Z) w s' b'
 |10=>∃b':Bk,v=b'.val/\eI (λk=>k<Z) w s' b'
 |11=>v=I c
 |_=>True
theorem IT2.zL (j:Nat)(v:Va)(w w':Wd)(d:IT2 S b g e n nm x f c Z j v w)(k:aG w w'):IT2 S b g e n nm x f c Z j v w':=by
 unfold IT2 at*;split at d
 all_goals first
  |exact d
  |(obtain⟨b',h,i⟩:=d;exact⟨b',h,i.zL k⟩)
theorem U9 (F:Nat->Prop)(S:Nat)(w:Wd)(s:St)(b:Bk)(v:Va)(p:lH F S w s b v)(kk:Nat)(zc:jF kk s)(a:List Ba)(ao:Oa)(D:Nat)(hX:Xs 1 eE w ao a):
 aW 40 #[E S 0,.slice ao (ln a) D] w λe w'=>XT F S w s (mZ s a) e w':=by
 by_cases T:ln a=1
 ·obtain⟨nm,rfl⟩:∃nm,a=[nm]:=leo.1 T;rcases hX with h|⟨bl,r,rfl,O⟩;·cases h
  have c1:w.cell? (Y bl r)=some (.string nm):=by have:=O 0 sm 0 _ rfl;simpa using this
  clear T O;obtain⟨x,hx⟩:=cI (aV nm);have C:=aI hx;have A:Hid (x=-1->mZ s [nm]=(s,dR)):=λh=>by rw[mZ,hx,if_neg om]
  have X:Hid (0<=x->mZ s [nm]=(⟨dN s.b (fK s.b x) (eU s.b x),s.t⟩,jC (cX s.b x))):=λh=>by rw[mZ,hx,if_pos h]
  clear hx;obtain⟨M,N⟩:=AK s.b x;obtain⟨c,i⟩:=cI (cX s.b x);have m:Hid (0<=x->mZ s [nm]=(⟨dN s.b (fK s.b x) (eU s.b x),s.t⟩,jC c)):=by rw[←i];exact X.oQ
  rw[i]at M N;have V:=aI i;have B:Hid (aU F w w):=aU.refl _ _;clear i;go_enter Tryz.func40,Tryz.ntmps40;go_wp2_with (go_at_call 45;refine(gQ _).mono ?_;rintro e w' ⟨⟨u,rfl⟩,Q⟩;rw[Q];clear Q);refine pG 12 [some 9,some 10,some 11,some 12,some 13,some 14,some 15,some 16,some 17,some 18,some 19,some 20] (IT2 S b (sl bl r 1 D) bl r nm x (dN s.b (fK s.b x) (eU s.b x)) c w.heap.size) IT2.zL ?step ?fin
  case step=>
   intro ii o R w' zb y g d;obtain⟨z0z,z1z,z2z,z3z⟩:=(p.zL g).c;have z4z:=ctq g c1;match ii,zb with
   |2,_|3,_|4,_|6,_|7,_=>
    cases y;simp[Region.binds,IT2]at d;simp only[aD,Act.put,d];gi_wp2;exact⟨_,by simp[aH,d],rfl,br _ _⟩
   |0,_|1,_|5,_=>
    cases y;gi_wp2;exact⟨_,uhx,rfl,br _ _⟩
   |8,_=>
    cases y;simp[Region.binds,IT2]at d;simp only[aD,Act.put,d];gi_wp2_with fail;refine tqx ?_;refine(cw.2 (pZ nm w')).mono ?_;rintro e w5 ⟨⟨h0,rfl⟩|⟨h1,rfl⟩,j⟩
    ·rw[C.oQ]at h0 ⊢;rw[j];clear j;gi_wp2;exact⟨_,by simp[aH,d],⟨rfl,h0⟩,br _ _⟩
    ·have HZ:Hid (mZ s [nm]=(s,dR)):=A.oQ (by rw[←C.oQ];exact h1);rw[j];clear j h1;gi_wp2;exact⟨rfl,.inl ⟨HZ.oQ,rfl,g⟩⟩
   |9,_=>
    cases y;simp[Region.binds,IT2]at d;simp only[aD,Act.put,d];gi_wp2_with fail;refine tqx ?_;refine(cw.2 (UK (S':=λk=>k<w.heap.size) (p.e.zL g).l (p.zL g).b zc.b x (λk e=>nll e g.size))).mono ?_;rintro e w5 ⟨⟨b',rfl,f⟩,za⟩;have n:=aI f;clear f;rw[V.oQ];gi_wp2;exact⟨_,by simp[aH,d],⟨b',rfl,n.oQ⟩,za⟩
   |10,_=>
    cases y;obtain⟨b',G,f⟩:=Zq d 9;have n:=aI f;clear d f;simp only[aD,Act.put,G];gi_wp2;exact⟨_,by simp[aH,G],⟨b',rfl,n.oQ⟩,br _ _⟩
   |11,_=>
    cases y;obtain⟨b',G,f⟩:=Zq d 9;have n:=aI f;clear d f;simp only[aD,Act.put,G];gi_wp2;exact⟨_,by simp[aH,G],rfl,br _ _⟩
   |q+12,h=>omega
  case fin=>
   intro R w8 g P;have m:=m.oQ (P 8 dz).2;have m:Hid (mZ s [nm]=(⟨dN s.b (fK s.b x) (eU s.b x),s.t⟩,jC c)):=m;have e0:R 0=(E S 0):=P 0 dz;obtain⟨b',eb,f⟩:=P 10 dz;have ec:R 11=I c:=P 11 dz;have J:=p.zL g;have z:=aI (B.oQ.trans (aU.below g));have n:=aI f;clear P g f;simp only[lds,ldz,aD,Act.put];rw[e0,eb,ec];clear e0 eb ec;generalize R=R;gi_wp2_with fail;refine tqx ?_;refine(cw.2 (uO F S w8 _ b _ J w.heap.size p.fit.1 p.fit.2 _ b' n.oQ c M N)).mono ?_;rintro e w9 ⟨⟨⟨F9,b9,v9,K,H⟩,rfl⟩,L⟩;have Z:=aI K;have W:Hid (∀k,F9 k->F k∨w.heap.size<=k):=λk hk=>(H k hk).elim .inl (λh=>.inr (nlt B.oQ.size h));have U:Hid (aU F w w9):=z.oQ.trans (L.wide (λk e=>by rw[e];exact p.fS));clear K L z n J H;gi_wp2_with fail;go_wp2;go_ret;exact .inr ⟨⟨F9,b9,v9,by rw[m.oQ];exact Z.oQ,W.oQ⟩,by rw[m.oQ];rfl,U.oQ⟩
 ·have m:Hid (mZ s a=(s,dR)):=NS T;have hl':((ln a:Int)==1)=false:=by rw[bfn];omega
  clear T;go_enter Tryz.func40,Tryz.ntmps40;go_wp2_with (go_at_call 45;refine(jU _).mono ?_;rintro e w' ⟨rfl,rfl⟩);exact⟨rfl,.inl ⟨m.oQ,rfl,br _ _⟩⟩
theorem aAD (k:Ba)(l:Array UInt8):(k==⟨l⟩)=decide (k.toList=l.toList):=by
 rw[ByteArray.toList_eq];show(k.data==l)=_;rw[beii];simp[←Array.toList_inj]
theorem XQ {α:Type}(a:Array α)(x y:α):(a.push x).setIfInBounds a.size y=a.push y:=by
 apply Array.ext';simp
def zJ (k:ByteArray):Option Nat:=
 if k.toList=pV then some 34 else if k.toList=vU then some 35 else if k.toList=JD then some 36 else if k.toList=pJ then some 37 else if k.toList=uZ then some 38 else if k.toList=GH then some 39 else if k.toList=wB then some 40 else if k.toList=wT then some 41 else if k.toList=vI then some 42 else none
abbrev eW (S f:Nat):Value:=.func (.func f) #[E S 0] #[]
def EP (S:Nat):Array MapEntry:=#[⟨.string ⟨#[102,105,101,108,100]⟩,eW S 34,0⟩,⟨.string ⟨#[119,105,115,104]⟩,eW S 35,1⟩,⟨.string ⟨#[98,111,120]⟩,eW S 36,2⟩,⟨.string ⟨#[97,109,101,110,100]⟩,eW S 37,3⟩,⟨.string ⟨#[116,111,111,107]⟩,eW S 38,4⟩,⟨.string ⟨#[114,101,102,117,115,101,100]⟩,eW S 39,5⟩,⟨.string ⟨#[116,105,99,107]⟩,eW S 40,6⟩,⟨.string ⟨#[98,97,114,115]⟩,eW S 41,7⟩,⟨.string ⟨#[104,101,108,100]⟩,eW S 42,8⟩]
theorem MY (a:Bool)(k:Ba)(w:Wd):(Instr.checkKey a 10000 9 (.string k)).run prog w=.ok () w:=by
 rw[show(10000:Nat)=9999+1 from rfl,Instr.checkKey];simp[Sem.run_bind,run_underlying underlying9,Result.andThen_ok]
theorem nF (w:Wd)(a:Array MapEntry)(c:Nat)(k:Ba)(v:Va)(h:Instr.findNow .string (.string k) a.toList 0=some none):
 (Instr.mapUpdate 56 (.map (some w.heap.size)) (.string k) v).run prog (w.alloc (.map a c))=.ok () (w.alloc (.map (a.push ⟨.string k,v,c⟩) (c+1))):=by
 have b:=wnq w (.map a c)
 have e:{ w.alloc (.map a c)with heap:=(w.alloc (.map a c)).heap.setIfInBounds w.heap.size (.map (a.push ⟨.string k,v,c⟩) (c+1))}=w.alloc (.map (a.push ⟨.string k,v,c⟩) (c+1)):=by
  simp only[World.alloc];rw[XQ]
 rw[←e];obtain⟨r,g⟩:=cI w.heap.size;rw[g]at b ⊢;obtain⟨W,d⟩:=cI (w.alloc (.map a c));rw[d]at b ⊢;have f:(getObj r).run prog W=.ok (.map a c) W:=by simp[getObj,Sem.run,b]
 unfold Instr.mapUpdate Instr.findKey;simp only[Sem.run_bind,run_underlying underlying56,run_underlying underlying9,Result.andThen_ok,f,MY,h,Sem.run_pure];simp[setObj,Sem.run,b]
theorem Y1 (S:Nat)(k:Ba):∃i,Instr.findNow .string (.string k) (EP S).toList 0=some ((zJ k).map λf=>(i,eW S f)):=by
 unfold zJ;simp only[EP,Instr.findNow,Instr.sameNow,aAD];by_cases a:k.toList=pV;·exact⟨0,by simp[a]⟩
 by_cases b:k.toList=vU;·exact⟨1,by simp[b]⟩
 by_cases c:k.toList=JD;·exact⟨2,by simp[c]⟩
 by_cases d:k.toList=pJ;·exact⟨3,by simp[d]⟩
 by_cases e:k.toList=uZ;·exact⟨4,by simp[e]⟩
 by_cases g:k.toList=GH;·exact⟨5,by simp[g]⟩
 by_cases h:k.toList=wB;·exact⟨6,by simp[h]⟩
 by_cases j:k.toList=wT;·exact⟨7,by simp[j]⟩
 by_cases l:k.toList=vI;·exact⟨8,by simp[l]⟩
 exact⟨0,by simp[a,b,c,d,e,g,h,j,l]⟩
theorem aAL (S r c:Nat)(k:Ba)(w:Wd)(d:w.heap[r]?=some (.map (EP S) c)):
 (Instr.lookup 56 (.map (some r)) (.string k) true).run prog w=.ok (.tuple #[((zJ k).map (eW S)).getD .nilFunc,.bool (zJ k).isSome]) w:=by
 obtain⟨i,a⟩:=Y1 S k;have b:(getObj r).run prog w=.ok (.map (EP S) c) w:=by simp[getObj,Sem.run,d]
 have e:(zeroValue 96).run prog w=.ok .nilFunc w:=by go_simp
 unfold Instr.lookup Instr.findKey;simp only[Sem.run_bind,run_underlying underlying56,run_underlying underlying9,Result.andThen_ok,b,MY,Sem.run_pure,a];cases zJ k with
 |none=>simp[e]
 |some f=>simp
theorem ID (S:Nat)(w:Wd):
 aW 18 #[E S 0] w λe w'=>e=rt (.map (some w.heap.size))/\w'=w.alloc (.map (EP S) 9):=by
 have hmk:(Instr.makeMap 56 none).run prog w=.ok (.map (some w.heap.size)) (w.alloc (.map #[] 0)):=rfl;have a:=nF w #[] 0 ⟨#[102,105,101,108,100]⟩ (eW S 34) rfl;have b:=nF w #[⟨.string ⟨#[102,105,101,108,100]⟩,eW S 34,0⟩] 1 ⟨#[119,105,115,104]⟩ (eW S 35) rfl;have c:=nF w #[⟨.string ⟨#[102,105,101,108,100]⟩,eW S 34,0⟩,⟨.string ⟨#[119,105,115,104]⟩,eW S 35,1⟩] 2 ⟨#[98,111,120]⟩ (eW S 36) rfl;have d:=nF w #[⟨.string ⟨#[102,105,101,108,100]⟩,eW S 34,0⟩,⟨.string ⟨#[119,105,115,104]⟩,eW S 35,1⟩,⟨.string ⟨#[98,111,120]⟩,eW S 36,2⟩] 3 ⟨#[97,109,101,110,100]⟩ (eW S 37) rfl;have f:=nF w #[⟨.string ⟨#[102,105,101,108,100]⟩,eW S 34,0⟩,⟨.string ⟨#[119,105,115,104]⟩,eW S 35,1⟩,⟨.string ⟨#[98,111,120]⟩,eW S 36,2⟩,⟨.string ⟨#[97,109,101,110,100]⟩,eW S 37,3⟩] 4 ⟨#[116,111,111,107]⟩ (eW S 38) rfl;have g:=nF w #[⟨.string ⟨#[102,105,101,108,100]⟩,eW S 34,0⟩,⟨.string ⟨#[119,105,115,104]⟩,eW S 35,1⟩,⟨.string ⟨#[98,111,120]⟩,eW S 36,2⟩,⟨.string ⟨#[97,109,101,110,100]⟩,eW S 37,3⟩,⟨.string ⟨#[116,111,111,107]⟩,eW S 38,4⟩] 5 ⟨#[114,101,102,117,115,101,100]⟩ (eW S 39) rfl;have h:=nF w #[⟨.string ⟨#[102,105,101,108,100]⟩,eW S 34,0⟩,⟨.string ⟨#[119,105,115,104]⟩,eW S 35,1⟩,⟨.string ⟨#[98,111,120]⟩,eW S 36,2⟩,⟨.string ⟨#[97,109,101,110,100]⟩,eW S 37,3⟩,⟨.string ⟨#[116,111,111,107]⟩,eW S 38,4⟩,⟨.string ⟨#[114,101,102,117,115,101,100]⟩,eW S 39,5⟩] 6 ⟨#[116,105,99,107]⟩ (eW S 40) rfl;have i:=nF w #[⟨.string ⟨#[102,105,101,108,100]⟩,eW S 34,0⟩,⟨.string ⟨#[119,105,115,104]⟩,eW S 35,1⟩,⟨.string ⟨#[98,111,120]⟩,eW S 36,2⟩,⟨.string ⟨#[97,109,101,110,100]⟩,eW S 37,3⟩,⟨.string ⟨#[116,111,111,107]⟩,eW S 38,4⟩,⟨.string ⟨#[114,101,102,117,115,101,100]⟩,eW S 39,5⟩,⟨.string ⟨#[116,105,99,107]⟩,eW S 40,6⟩] 7 ⟨#[98,97,114,115]⟩ (eW S 41) rfl;have j:=nF w #[⟨.string ⟨#[102,105,101,108,100]⟩,eW S 34,0⟩,⟨.string ⟨#[119,105,115,104]⟩,eW S 35,1⟩,⟨.string ⟨#[98,111,120]⟩,eW S 36,2⟩,⟨.string ⟨#[97,109,101,110,100]⟩,eW S 37,3⟩,⟨.string ⟨#[116,111,111,107]⟩,eW S 38,4⟩,⟨.string ⟨#[114,101,102,117,115,101,100]⟩,eW S 39,5⟩,⟨.string ⟨#[116,105,99,107]⟩,eW S 40,6⟩,⟨.string ⟨#[98,97,114,115]⟩,eW S 41,7⟩] 8 ⟨#[104,101,108,100]⟩ (eW S 42) rfl;simp only[lpt,lca,lna,Nat.reduceAdd,eW]at a b c d f g h i j;go_enter func18,ntmps18;go_wp2;go_ret;exact⟨rfl,rfl⟩
