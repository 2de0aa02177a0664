import Derived.Lib.Join
import Derived.Maps.OwnIn
import Derived.Test.YtoolgmmljacfmaaGreatDoorZl
set_option maxRecDepth 100000
set_option maxHeartbeats 8000000
open List renaming length → ln
open Go.Proofs.Tryz Go.RowKit
namespace Go.Proofs.YtoolgmmljacfmaaGreatDoor
open Go.BigFrame
variable {H:Nat}{x:Hx}{h:Va}{b c d e f g:Ba}{s:St}{a:List Ba}
def lE (h:Hx):ByteArray:=h.n++⟨#[58]⟩++iS h.tl++⟨#[47]⟩++iS h.nl
theorem QQ (o:Ba)(h:Hx):mY o h=o++(sSp++lE h):=by
 simp only[mY,lE,ByteArray.append_assoc]
theorem F7:∀(l:List Hx) (o:Ba),l.foldl mY o=o++⟨(Lib.joinTail [32] (l.map λh=>(lE h).data.toList)).toArray⟩
 |[],o=>by
  apply ByteArray.ext;simp[Lib.joinTail]
 |h::r,o=>by
  rw[List.foldl_cons,F7 r,QQ];apply ByteArray.ext;apply Array.ext';simp[Lib.joinTail]
theorem UU (b:Bk):(⟨(Lib.join ((dH b.now::b.hl.map lE).map (·.data.toList)) [32]).toArray⟩:Ba)=rC b:=by
 unfold rC;rw[F7];apply ByteArray.ext;apply Array.ext';rw[List.map_cons,Lib.join_cons];simp[List.map_map];rfl
def ZE (H:Nat)(x:Hx)(v5:Value)(s1 s2 s3 s4 s5 s6:ByteArray)(j:Nat)(v:Value)(w:World):Prop:=
 match j with
 |0=>v=v5
 |1=>v=(E H 0)
 |2=>v=.string x.n
 |3=>v=.string s1
 |4=>v=(E H 1)
 |5=>v=.slice x.ta x.tl.length x.tc
 |6=>v=.string s2
 |7=>v=.string s3
 |8=>v=.string s4
 |9=>v=(E H 2)
 |10=>v=.slice x.na x.nl.length x.nc
 |11=>v=.string s5
 |12=>v=.string s6
 |13=>∃p,v=.slice (some (Y p 0)) 1 1/\w.heap[p]?=some (.cells #[.string s6] 9)
 |_=>True
theorem ZE.zL (j:Nat)(v:Va)(w w':Wd)(a:ZE H x h b c d e f g j v w)(l:aG w w'):ZE H x h b c d e f g j v w':=by
 unfold ZE at*;split at a
 all_goals first
  |exact a
  |(obtain⟨p,i,k⟩:=a;exact⟨p,i,bJ k l⟩)
theorem TS (h:¬(ln a)=0):yK s a=(s,dR):=by
 unfold yK;split;·simp at h
 ·rfl
theorem UR (F:Nat->Prop)(S:Nat)(w:Wd)(s:St)(b:Bk)(v:Va)(hS:lH F S w s b v)(kk:Nat)(ym:jF kk s)(a:List Ba)(ao:Oa)(U:Nat):
 aW 42 #[E S 0,.slice ao (ln a) U] w λe w'=>XT F S w s (yK s a) e w':=by
 obtain⟨yq,zi,yn,yo,yp⟩:=info_parts Tryz.infoStr
 by_cases hl:ln a=0
 ·have HR:Hid (yK s a=(s,rC s.b)):=by rw[enl hl];rfl
  have yi:((ln a:Int)==0)=true:=by rw[beq_iff_eq];omega
  clear hl;have D:aO b=true:=hS.b.book.trans ym.b;have P:=vN D;have h16:=kD D
  have zl:0<=b.now/\b.now<=10000:=by
   have:=(dQ.1 D).1
   rwa[oL,dte]at this
  have Z:∀x∈b.hl,(iS x.tl).size<=6000005/\(iS x.nl).size<=6000005/\x.n.size<=8:=λx hx=>by
   obtain⟨_,h1,h2,h3,h4,h5⟩:=P x hx;exact⟨lS h1 (pB h4),lS h2 (pB h5),h3⟩
  have ye:=aI (CR hS.b.c);have zx:=aI (EU D);obtain⟨c0,c1,c2,c3⟩:=hS.c;clear D
  go_enter func42,ntmps42
  go_wp2_with (go_at_call 45;refine(gQ _).mono ?_;rintro e w' ⟨⟨u,rfl⟩,zq⟩;rw[zq];clear zq)
  go_wp2_with fail
  refine(wO b.now w hS.e zl.1 om).mono ?_;rintro e w1 ⟨rfl,l⟩;have A:aG w (w1.alloc (.cells #[.string (dH b.now)] 9)):=aC l _;have zz:Hid ((w1.alloc (.cells #[.string (dH b.now)] 9)).ownsRow w.heap.size 9 1 (sl w1.heap.size 0 1 1) (0+1) ((dH b.now::(b.hl.take 0).map lE).map Value.string)):=⟨rfl,.inr ⟨w1.heap.size,1,_,rfl,l.size,wnq w1 _,nlq _,by unfold maxLen;omega,rfl,rfl⟩⟩;obtain⟨y0,y1,y2,y3⟩:=(hS.zL A).c;clear l c0 c1 c2 c3;go_wp2
  clear y0 y1 y2 y3
  go_loopw [5,25] (λov iv wr=>∃k:Nat,k<=ln b.hl/\iv=I k/\Hid (wr.ownsRow w.heap.size 9 1 ov (k+1) ((dH b.now::(b.hl.take k).map lE).map Value.string))/\aG w wr) (λ_ iv _=>ln b.hl-(intOf iv).toNat)
  case atStart=>exact⟨0,nz _,rfl,zz,A⟩
  case round=>
   obtain⟨k,hk,rfl,HO,hN⟩:=hrel;have z:=hS.zL hN
   by_cases f:k<ln b.hl
   ·have zk:(k:Int)<(ln b.hl:Int):=om
    have C:=z.b.inn
    rcases C.h with h|⟨g,off,ze,zg⟩
    ·rw[h]at f;simp at f
    rw[ze];obtain⟨q0,q1,q2⟩:=gN (zg k f);obtain⟨_,yj,yk,yl,l,A⟩:=P _ (lgm f);obtain⟨zn,zp,_⟩:=Z _ (lgm f);have m:=C.i _ (lgm f);have T:Hid ((dH b.now::(b.hl.take (k+1)).map lE)=(dH b.now::(b.hl.take k).map lE)++[lE b.hl[k]]):=by rw[Hid,tsa f,lmp];rfl
    obtain⟨x,hx⟩:=bQ (b.hl[k]);rw[←hx]at q0 q1 q2 yj yk yl l A zn zp m T;have y:=z.e;clear hx zg C z ze;obtain⟨s1,J⟩:∃s,s=x.n++(⟨#[58]⟩:Ba):=⟨_,rfl⟩;obtain⟨s2,K⟩:∃s,s=iS x.tl:=⟨_,rfl⟩;obtain⟨s3,L⟩:∃s,s=s1++s2:=⟨_,rfl⟩;obtain⟨s4,M⟩:∃s,s=s3++(⟨#[47]⟩:Ba):=⟨_,rfl⟩;obtain⟨s5,N⟩:∃s,s=iS x.nl:=⟨_,rfl⟩;obtain⟨s6,O⟩:∃s,s=s4++s5:=⟨_,rfl⟩;have yr:s1.size=x.n.size+1:=by rw[J,bsz];rfl
    have ys:s2.size<=6000005:=by rw[K];exact zn
    have yt:s3.size=s1.size+s2.size:=by rw[L,bsz]
    have yu:s4.size=s3.size+1:=by rw[M,bsz];rfl
    have yv:s5.size<=6000005:=by rw[N];exact zp
    have yw:s6.size=s4.size+s5.size:=by rw[O,bsz]
    have gs1:¬9223372036854775807<x.n.size+1:=om
    have gs3:¬9223372036854775807<s1.size+s2.size:=om
    have gs4:¬9223372036854775807<s3.size+1:=om
    have gs6:¬9223372036854775807<s4.size+s5.size:=om
    have HT:Hid ((dH b.now::(b.hl.take (k+1)).map lE)=(dH b.now::(b.hl.take k).map lE)++[s6]):=by rw[Hid,T.oQ,lE,←K,←N,←J,←L,←M,←O]
    have fs1:=J.symm;have zt:=aI K;have fs3:=L.symm;have fs4:=M.symm;have zu:=aI N;have fs6:=O.symm;clear T J yr K ys L yt M yu N yv O yw;have B:aG wr (wr.alloc (ho x)):=aC (br _ _) _;have k0:(wr.alloc (ho x)).cell? (ya wr 0)=some (.string x.n):=aB (wnq wr _) rfl;have k1:(wr.alloc (ho x)).cell? (ya wr 1)=some (ts x):=aB (wnq wr _) rfl;have k2:(wr.alloc (ho x)).cell? (ya wr 2)=some (ns x):=aB (wnq wr _) rfl;have za:=aI (aE hN B);have zb:=aI (dC HO.oQ B)
    replace m:=Hx.In.zL m B
    replace y:=y.zL B
    clear B HO
    go_upto_region 6 with fail
    obtain⟨W1,zd⟩:=cI (wr.alloc (ho x));rw[zd]at k0 k1 k2 za m zb y ⊢;clear zd q0 q1 q2;refine pG 14 [some 29,some 30,some 31,some 32,some 33,some 34,some 35,some 36,some 37,some 38,some 39,some 40,some 41,some 42] (ZE wr.heap.size x u5 s1 s2 s3 s4 s5 s6) ZE.zL ?step ?fin
    case step=>
     intro ii o vs w' yg zm t r;have z0z:=ctq t k0;have z1z:=ctq t k1;have z2z:=ctq t k2
     match ii,yg with
     |2,_|3,_|5,_|7,_|8,_|10,_|12,_=>
      cases zm
      simp[Region.binds,ZE]at r
      simp only[aD,Act.put,r];gi_wp2;exact⟨_,by simp[aH,r],rfl,br _ _⟩
     |0,_|1,_|4,_|9,_=>
      cases zm
      gi_wp2;exact⟨_,uhx,rfl,br _ _⟩
     |6,_=>
      cases zm
      simp[Region.binds,ZE]at r
      simp only[aD,Act.put,r];gi_wp2_with fail
      refine tqx ?_;refine(cw.2 (wR x.tl x.ta x.tc w' (y.zL t) (m.1.zL t) om (sZ l))).mono ?_;rintro e w5 ⟨rfl,W⟩;rw[←zt.out];gi_wp2;exact⟨_,by simp[aH,r],rfl,W⟩
     |11,_=>
      cases zm
      simp[Region.binds,ZE]at r
      simp only[aD,Act.put,r];gi_wp2_with fail
      refine tqx ?_;refine(cw.2 (wR x.nl x.na x.nc w' (y.zL t) (m.2.zL t) om (sZ A))).mono ?_;rintro e w5 ⟨rfl,W⟩;rw[←zu.out];gi_wp2;exact⟨_,by simp[aH,r],rfl,W⟩
     |13,_=>
      cases zm
      simp[Region.binds,ZE]at r
      simp only[aD,Act.put,r];gi_wp2;exact⟨_,by simp[aH,r],⟨_,rfl,wnq w' _⟩,aC (br _ _) _⟩
     |q+14,h=>omega
    case fin=>
     intro vs w8 t hp;have e0:vs 0=u5:=hp 0 dz;obtain⟨p,zc,R⟩:=hp 13 dz;have H:=aI (aE za.oQ t);have V:w8.ownsRow w.heap.size 9 1 u5 (k+1) ((dH b.now::(b.hl.take k).map lE).map Value.string):=dC zb.oQ t
     have G:∀j u,[Value.string s6][j]?=some u->w8.cell? (((Y p 0):Addr).add j)=some u:=λj u h=>by
      rw[aal,nza]
      match j,h with
      |0,h=>simp at h;subst h;exact aB R rfl
     clear hp t;simp only[lds,ldz,aD,Act.put,sit,lcs,lcz];rw[e0,zc];refine wpListIn_append_own w8 rfl (.tmp 29) (.tmp 42) 50 rfl w.heap.size 9 yq _ 1 16 underlying50 zi yn yo yp rfl dz u5 (k+1) _ rfl V (Y p 0) 1 1 [.string s6] rfl rfl G (λu hu=>by simp at hu;subst hu;rfl) (by unfold maxLen;omega) om H.oQ.size (λv1 wn Q zh _=>?_);have zw:Hid (aG w wn):=H.oQ.grown zh H.oQ.size (λq hq=>eH V hq)
     have yb:Hid (wn.ownsRow w.heap.size 9 1 v1 (k+1+1) ((dH b.now::(b.hl.take (k+1)).map lE).map Value.string)):=by
      rw[Hid,HT.oQ];have:=Q
      simpa using this
     clear Q zh G V H e0 zc R;generalize vs=vs;gi_wp2_with fail
     go_wp2
     go_roundw
     case rel=>exact⟨k+1,om,gn,yb,zw.oQ⟩
     case measure=>simp[intOf];omega
   ·have zk:¬(k:Int)<(ln b.hl:Int):=om
    have zj:b.hl.take k=b.hl:=ltl om;have hO:=HO.oQ;rw[zj]at hO;have d:ln (dH b.now::b.hl.map lE)=k+1:=by simp;omega
    rw[←d]at hO
    obtain⟨g,cp,rfl,zf⟩:∃g cp,u5=.slice (some (Y g 0)) (ln (dH b.now::b.hl.map lE)) cp/\(ln (dH b.now::b.hl.map lE))<=cp:=by
     obtain⟨_,⟨_,e⟩|⟨g,U,_,e,_,_,h,_⟩⟩:=hO
     ·simp at e
     ·exact⟨g,U,e,h⟩
    obtain⟨a5,c5,e5,zr⟩:=sY hO;have yf:g<wr.heap.size:=(hO.lt g rfl).2;have HJ:=aI (UU b);have yd:=aI z
    have yh:ln (Lib.join ((dH b.now::b.hl.map lE).map (·.data.toList)) [32])<=2000000000:=by
     have:=zx.oQ;rw[←HJ.oQ]at this
     simpa only[ByteArray.size,lsz]using this
    obtain⟨xs,zs⟩:=bQ (dH b.now::b.hl.map lE);rw[←zs]at zr zf d HJ yh e5 ⊢
    cases e5
    have hxl:ln xs<=17:=om
    clear hO HO zs zj z d;go_wp2_with fail
    refine(Tryz.strings_Join g 0 cp xs ⟨#[32]⟩ wr (λj x hj=>iC zr j x hj) yf om zf (by show(ln (Lib.join (xs.map (·.data.toList)) [32]))<=_;omega)).mono ?_;rintro e w9 ⟨rfl,X⟩;have yc:=aI (yd.oQ.zL X);have zv:=aI (aE hN X);have zy:=aI (HJ.oQ.trans ye.oQ);clear X;go_wp2
    go_ret;exact .inr ⟨⟨F,b,v,by rw[HR.oQ];exact yc.oQ,λk hk=>.inl hk⟩,by rw[HR.oQ,←zy.oQ];rfl,aU.below zv.oQ⟩
 ·have HR:Hid (yK s a=(s,dR)):=TS hl
  have yi:((ln a:Int)==0)=false:=by rw[bfn];omega
  clear hl
  go_enter func42,ntmps42
  go_wp2_with (go_at_call 45;refine(jU _).mono ?_;rintro e w' ⟨rfl,rfl⟩)
  exact⟨rfl,.inl ⟨HR.oQ,rfl,br _ _⟩⟩
variable {S S':Nat → Prop}{w w':Wd}{s b:Bk}{n g a v W D:Nat}{k c f C:Va}{y:Bx}{B:St}{ta:Oa}
theorem eI.mono2 (h:eI S w s b)(g:∀k,S' k->k<w.heap.size->S k):eI S' w s b:=⟨h.c,λw' a=>h.i w' ⟨a.os,a.tape,a.output,a.size,λk d f=>a.block k d (λe=>f (g k e d))⟩,h.f1,h.f2⟩
def NF (S:Nat)(tv vn:Value)(g oo:Nat)(y:Bx)(j:Nat)(vs:Nat->Value)(w:World):Prop:=
 match j with
 |0=>vs 0=(E S 0)
 |1=>vs 1=(E S 0)
 |2=>vs 2=(E S 0)
 |3=>vs 3=(E S 3)
 |4=>vs 4=tv
 |5=>vs 5=vn
 |6=>vs 6=(E g oo)
 |7=>vs 7=I y.x
 |8=>vs 8=vn
 |9=>vs 9=(E g (oo+1))
 |10=>vs 10=I y.y
 |11=>vs 11=vn
 |12=>vs 12=(E g (oo+2))
 |13=>vs 13=I y.lo
 |14=>vs 14=vn
 |15=>vs 15=(E g (oo+3))
 |16=>vs 16=I y.hi
 |17=>vs 17=vn
 |18=>vs 18=(E g (oo+4))
 |19=>vs 19=I y.i
 |20=>vs 20=vn
 |21=>vs 21=(E g (oo+5))
 |22=>vs 22=I y.o
 |23=>vs 23=.agg #[I y.x,I y.y,I y.lo,I y.hi,I y.i,I y.o]
 |24=>∃p,vs 24=.slice (some (Y p 0)) 1 1/\w.heap[p]?=some (.cells #[I y.x,I y.y,I y.lo,I y.hi,I y.i,I y.o] 91)
 |_=>True
theorem NF.zL (j:Nat)(d:Nat->Va)(w w':Wd)(h:NF n k c g a y j d w)(i:aG w w'):NF n k c g a y j d w':=by
 unfold NF at*;split at h
 all_goals first
  |exact h
  |(obtain⟨p,e,f⟩:=h;exact⟨p,e,bJ f i⟩)
def dpIB (j:Nat):List Nat:=[j]
def XV (j:Nat):Bool:=j==0
theorem NF.loc (j:Nat)(b a:Nat->Va)(w:Wd)(i:∀q∈dpIB j,b q=a q)(h:NF n k f g v y j b w):NF n k f g v y j a w:=by
 have e:b j=a j:=i j (by simp[dpIB]);unfold NF at*;split at h
 all_goals first
  |(rw[←e];exact h)
  |trivial
def PfIB (S:Nat)(_:Nat)(v:Value):Prop:=v=(E S 0)
theorem NF.free (j:Nat)(b:Nat->Va)(w:Wd)(a:XV j=true)(h:NF n k f g v y j b w):PfIB n j (b j):=by
 simp[XV]at a;subst a;exact h
structure GIB (W:World)(S:Nat)(hv:Value)(y:Bx)(t:List Bx)(k:Nat)(vs:Nat->Value)(w':World):Prop where
 a:k=25->aG W w'/\vs 4=hv/\∃p,vs 24=.slice (some ⟨p,0,none⟩) 1 1/\w'.heap[p]?=some (.cells #[.int .i64 y.x,.int .i64 y.y,.int .i64 y.lo,.int .i64 y.hi,.int .i64 y.i,.int .i64 y.o] 91)
 b:26<=k->∃w0,aG W w0/\w0.grownBy w' hv.ownBlock/\w'.ownsRow 8 91 6 (vs 25) (t.length+1) (fG t++aR y)/\((vs 25).ownBlock=hv.ownBlock∨(vs 25).ownBlock=some w0.heap.size)
 c:27<=k->vs 26=.pointer (some ⟨S,0,none⟩)
 d:28<=k->vs 27=.pointer (some ⟨S,3,none⟩)
theorem lH.add (h:lH S' W w B b C) (y:Bx) (f:w.grownBy w' C.ownBlock) (r:w'.ownsRow 8 91 6 (.slice ta (ln B.t+1) D) (ln B.t+1) (fG B.t++aR y)) (ha:(Value.slice ta (ln B.t+1) D).ownBlock=C.ownBlock∨(Value.slice ta (ln B.t+1) D).ownBlock=some w.heap.size):
 lH (λk=>S' k∨(w.heap.size<=k/\k<w'.heap.size)) W (w'.setCell (Y W 3) (.slice ta (ln B.t+1) D)) ⟨B.b,B.t++[y]⟩ b (.slice ta (ln B.t+1) D)/\aU S' w (w'.setCell (Y W 3) (.slice ta (ln B.t+1) D)):=by
 have l:=(h.fl W h.fS).1;have i:aU (λk=>C.ownBlock=some k) w w':=⟨f.os,f.tape,f.output,f.size,λk a A=>f.block k a (λe=>A e.symm)⟩;have u:w'.heap[W]?=some (.cells #[I b.now,fs b,hs b,C] 55):=bF h.o i h.ne;have j:aU (λk=>k=W) w' (w'.setCell (Y W 3) (.slice ta (ln B.t+1) D)):=(aU.refl (λk=>k=W) w').set (g:=W) rfl _ _;have d:aU (λk=>k=W∨C.ownBlock=some k) w (w'.setCell (Y W 3) (.slice ta (ln B.t+1) D)):=(i.wide (λ_ e=>.inr e)).trans (j.wide (λ_ e=>.inl e));have q:(w'.setCell (Y W 3) (.slice ta (ln B.t+1) D)).heap.size=w'.heap.size:=by simp[World.setCell]
 have p:=r.lt;refine⟨⟨aP u 3 _,?_,(h.b.but (d.wide (λk a=>a.elim .inl (λe=>.inr (.inl e))))).mono2 (λk a hw=>?_),.inl h.fS,λk a=>?_,λk a=>?_,(h.e.but d (λk e=>?_))⟩,d.wide (λk e=>e.elim (λe=>by rw[e];exact h.fS) (h.fh k))⟩
 ·have z:ln (B.t++[y])=ln B.t+1:=by simp
  show World.ownsRow _ 8 _ 6 _ (ln (B.t++[y])) (fG (B.t++[y]));rw[z,jV]
  exact jI r (λk cs _ m=>j.block k (iB m) (λe=>by
   have x:k=W:=e;rw[x,u]at m;simp at m))
 ·rcases a with a|a|a;·exact .inl a
  ·rcases ha with ha|ha;·exact .inr (.inl (ha▸a))
   ·rw[ha]at a;have:w.heap.size=k:=by simpa using a
    exact .inr (.inr (λn=>by have:=(h.fl k n).2;omega))
  ·exact .inr (.inr (λn=>a (.inl n)))
 ·rcases ha with ha|ha;·exact .inl (h.fh k (ha▸a))
  ·have:=(p k a).2;rw[ha]at a;have:w.heap.size=k:=by simpa using a
   exact .inr ⟨om,om⟩
 ·rw[q];rcases a with a|a;·exact⟨(h.fl k a).1,nll (h.fl k a).2 f.size⟩
  ·exact⟨by have:=(h.fl W h.fS).2;omega,a.2⟩
 ·rcases e with e|e;·rw[e];exact l
  ·exact(h.fl k (h.fh k e)).1
theorem XA (F:Nat->Prop)(S:Nat)(w:World)(s:St)(b:Bk)(v:Value)(hS:lH F S w s b v)(kk:Nat)(zu:jF kk s)(hkk:kk<=1000)(a:List ByteArray)(ao:Option Addr)(Q:Nat)(hX:Xs 1 eE w ao a):
 aW 36 #[E S 0,.slice ao a.length Q] w λe w'=>XT F S w s (vB s a) e w':=by
 obtain⟨ib,zt,zq,zr,zs⟩:=info_parts Tryz.info91;have ht1:s.t.length<=1000:=by have:=zu.t;omega
 by_cases hl:a.length=6
 ·have HL:=aI hl;have zg:((a.length:Int)==6)=true:=by rw[beq_iff_eq];omega
  clear hl;go_enter func36,ntmps36;go_wp2_with (go_at_call 45;refine(gQ _).mono ?_;rintro e w' ⟨⟨u,rfl⟩,zi⟩;rw[zi];clear zi);go_wp2_with fail;refine(kE a ao Q w hX (by have:=HL.oQ;omega)).mono ?_;rintro e B ⟨⟨M,v2,rfl,zh⟩|⟨L,rfl⟩,n⟩
  ·obtain⟨x0,x1,x2,x3,x4,x5,rfl⟩:=ws6 HL.oQ;obtain⟨a6,c6,rfl,zw⟩:=pW (eN _).symm zh;rcases zw with h|⟨g,C,rfl,z⟩;·simp[aS]at h
   have za:Hid (vB s [x0,x1,x2,x3,x4,x5]=(⟨s.b,s.t++[⟨aV x0,aV x1,aV x2,aV x3,aV x4,aV x5⟩]⟩,VW)):=by
    rw[Hid,vB,if_pos (pY M)]
   have j0:B.cell? (Y g C)=some (I (aV x0)):=by have:=z 0 (by simp[aS]) 0 _ rfl;simpa[aS]using this
   have j1:B.cell? (Y g (C+1))=some (I (aV x1)):=by have:=z 1 (by simp[aS]) 0 _ rfl;simpa[aS]using this
   have j2:B.cell? (Y g (C+2))=some (I (aV x2)):=by have:=z 2 (by simp[aS]) 0 _ rfl;simpa[aS]using this
   have j3:B.cell? (Y g (C+3))=some (I (aV x3)):=by have:=z 3 (by simp[aS]) 0 _ rfl;simpa[aS]using this
   have j4:B.cell? (Y g (C+4))=some (I (aV x4)):=by have:=z 4 (by simp[aS]) 0 _ rfl;simpa[aS]using this
   have j5:B.cell? (Y g (C+5))=some (I (aV x5)):=by have:=z 5 (by simp[aS]) 0 _ rfl;simpa[aS]using this
   have e5:(aS [x0,x1,x2,x3,x4,x5]).length=6:=rfl;rw[e5];obtain⟨y,O⟩:=bQ (⟨aV x0,aV x1,aV x2,aV x3,aV x4,aV x5⟩:Bx);have Z:Hid (vB s [x0,x1,x2,x3,x4,x5]=(⟨s.b,s.t++[y]⟩,VW)):=by rw[O];exact za.oQ
   replace j0:B.cell? (Y g C)=some (I y.x):=by rw[O];exact j0
   replace j1:B.cell? (Y g (C+1))=some (I y.y):=by rw[O];exact j1
   replace j2:B.cell? (Y g (C+2))=some (I y.lo):=by rw[O];exact j2
   replace j3:B.cell? (Y g (C+3))=some (I y.hi):=by rw[O];exact j3
   replace j4:B.cell? (Y g (C+4))=some (I y.i):=by rw[O];exact j4
   replace j5:B.cell? (Y g (C+5))=some (I y.o):=by rw[O];exact j5
   have J:=aI (n);replace hS:=hS.zL n;clear O za e5 z M HL hX zh n zg;go_upto_region 3 with fail;refine ZC 6 25 28 [some 12,some 13,some 14,some 15,some 16,some 17,some 18,some 19,some 20,some 21,some 22,some 23,some 24,some 25,some 26,some 27,some 28,some 29,some 30,some 31,some 32,some 33,some 34,some 35,some 36,some 37,some 38,some 39] XV dpIB (NF S v (.slice (some (Y g C)) 6 c6) g C y) (PfIB S) (GIB B S v y s.t) NF.zL NF.loc NF.free ?step ?free ?g0 ?gf ?store ?fin
   case step=>
    intro ii o A w' zf r l G;obtain⟨z0z,z1z,z2z,z3z⟩:=(hS.zL l).c;have y0y:=(l.cell (aA j0)).trans j0;have y1y:=(l.cell (aA j1)).trans j1;have y2y:=(l.cell (aA j2)).trans j2;have y3y:=(l.cell (aA j3)).trans j3;have y4y:=(l.cell (aA j4)).trans j4;have y5y:=(l.cell (aA j5)).trans j5;match ii,zf with
    |2,_|3,_|4,_|6,_|7,_|9,_|10,_|12,_|13,_|15,_|16,_|18,_|19,_|21,_|22,_|23,_=>
     simp at r;subst r;simp[Region.binds,NF]at G;simp only[aD,Act.put,G];gi_wp2;exact⟨_,by simp[aH,G],rfl,br _ _⟩
    |0,_|1,_|5,_|8,_|11,_|14,_|17,_|20,_=>
     simp at r;subst r;simp only[aD,Act.put];gi_wp2;exact⟨_,by simp[aH],rfl,br _ _⟩
    |24,_=>
     simp at r;subst r;simp[Region.binds,NF]at G;simp only[aD,Act.put,G];gi_wp2;exact⟨_,by simp[aH,G],⟨_,rfl,wnq w' _⟩,aC (br _ _) _⟩
    |q+25,h=>omega
   case free=>
    intro i o A w' t zf V r ht htM m G;have W:i=0:=by simpa[XV]using V
    subst W;clear m G;simp at r;subst r;simp only[aD,Act.put];gi_wp2;exact⟨(E S 0),by simp[aH],rfl,trivial⟩
   case g0=>
    intro A w' l X;exact⟨λ_=>⟨l,X 4 dz rfl,X 24 dz rfl⟩,λh=>absurd h dz,λh=>absurd h dz,λh=>absurd h dz⟩
   case gf=>
    intro t A w' i v V m;have W:i=0:=by simpa[XV]using V
    subst W;exact⟨m.a,m.b,m.c,m.d⟩
   case store=>
    intro t o A w' h12 h15 r m G;have ht:t=25∨t=26∨t=27:=om;rcases ht with rfl|rfl|rfl
    ·simp at r;subst r;obtain⟨l,d4,p,zb,X⟩:=m.a rfl;have U:=(hS.zL l).h;have h8:8<=w'.heap.size:=(hS.zL l).e.s;have zj:=aI l
     have H:∀j u,(aR y)[j]?=some u->w'.cell? (((Y p 0):Addr).add j)=some u:=λj u h=>by
      rw[aal,nza];match j,h with
      |0,h|1,h|2,h|3,h|4,h|5,h=>simp[aR]at h;subst h;exact aB X rfl
     clear m G;simp only[aD,Act.put,sit,lcs,lcz];rw[d4,zb];refine wpListIn_append_own_at w' rfl (.tmp 16) (.tmp 36) 41 rfl 8 91 ib _ 6 48 underlying41 zt zq zr zs rfl dz v s.t.length (fG s.t) rfl U (Y p 0) 1 1 (aR y) rfl rfl H (m9 y) (by unfold maxLen;omega) om h8 (λv1 w1 N f _ D=>?_);have zl:=aI f;have zm:=aI N;have zn:=aI D;clear N f H U X l D;gi_wp2;exact⟨v1,by simp[aH,d4,zb,Act.put],λh=>absurd h dz,λ_=>⟨w',zj.oQ,zl.oQ,zm.oQ,zn.oQ⟩,λh=>absurd h dz,λh=>absurd h dz⟩
    ·simp at r;subst r;have d0:A 0=(E S 0):=G (eD 0) sm rfl dz rfl;have P:Hid (∃w0,aG B w0/\w0.grownBy w' v.ownBlock/\w'.ownsRow 8 91 6 (A 25) (s.t.length+1) (fG s.t++aR y)/\((A 25).ownBlock=v.ownBlock∨(A 25).ownBlock=some w0.heap.size)):=m.b dz;clear m G;simp only[aD,Act.put,d0];gi_wp2;exact⟨_,by simp[aH,d0],λh=>absurd h dz,λ_=>P.oQ,λ_=>rfl,λh=>absurd h dz⟩
    ·simp at r;subst r;have R:=m.c dz;have P:Hid (∃w0,aG B w0/\w0.grownBy w' v.ownBlock/\w'.ownsRow 8 91 6 (A 25) (s.t.length+1) (fG s.t++aR y)/\((A 25).ownBlock=v.ownBlock∨(A 25).ownBlock=some w0.heap.size)):=m.b dz;clear m G;simp only[aD,Act.put,R];gi_wp2;exact⟨_,by simp[aH,R],λh=>absurd h dz,λ_=>P.oQ,λ_=>R,λ_=>rfl⟩
   case fin=>
    intro A w' m X;have zc:=m.d dz;obtain⟨w0,l,f,U,D⟩:=m.b dz
    obtain⟨ta',tc',T⟩:∃a c,A 25=.slice a (s.t.length+1) c:=by
     obtain⟨_,⟨_,e⟩|⟨g,Q,_,e,_⟩⟩:=U;·omega
     ·exact⟨_,_,e⟩
    rw[T]at U D;have K:=hS.zL l;obtain⟨ze,zd⟩:=K.add y f U D;have zp:=aI ze;have zk:=aI ((aU.below (aE J.oQ l)).trans zd);have zv:w.heap.size<=w0.heap.size:=nlt J.oQ.size l.size;have o1:w'.heap[S]?=some (.cells #[I b.now,.slice b.fa b.fl.length b.fc,.slice b.ha b.hl.length b.hc,v] 55):=bF K.o (S:=λk=>v.ownBlock=some k) ⟨f.os,f.tape,f.output,f.size,λk hk hn=>f.block k hk (λe=>hn e.symm)⟩ K.ne;have y3:w'.cell? (Y S 3)=some v:=aB o1 rfl;have yf:=jS o1;clear X m l U K f D o1 ze zd;simp only[lds,ldz,aD,Act.put];rw[zc,T];clear zc T;generalize A=A;gi_wp2_with fail;go_wp2;go_ret;exact .inr ⟨⟨λk=>F k∨(w0.heap.size<=k/\k<w'.heap.size),b,_,by rw[Z.oQ];exact zp.oQ,λk hk=>hk.elim .inl (λh=>.inr (nlt zv h.1))⟩,by rw[Z.oQ];rfl,zk.oQ⟩
  ·have Z:Hid (vB s a=(s,dR)):=CJ (λh=>by rw[sA L]at h;exact absurd h.2 dz);have J:=aI (n);clear L n;go_wp2;exact⟨rfl,.inl ⟨Z.oQ,rfl,J.oQ⟩⟩
 ·have Z:Hid (vB s a=(s,dR)):=CJ (λh=>hl h.1);have zg:((a.length:Int)==6)=false:=by rw[bfn];omega
  clear hl;go_enter func36,ntmps36;go_wp2_with (go_at_call 45;refine(jU _).mono ?_;rintro e w' ⟨rfl,rfl⟩);exact⟨rfl,.inl ⟨Z.oQ,rfl,br _ _⟩⟩
variable {n:Ba}{f:Nat}
theorem E6 (h:zJ n=some f):(n.toList=pV/\f=34)∨(n.toList=vU/\f=35)∨(n.toList=JD/\f=36)∨(n.toList=pJ/\f=37)∨(n.toList=uZ/\f=38)∨(n.toList=GH/\f=39)∨(n.toList=wB/\f=40)∨(n.toList=wT/\f=41)∨(n.toList=vI/\f=42):=by
 unfold zJ at h;by_cases a:n.toList=pV;·rw[if_pos a]at h;cases h;simp[a]
 rw[if_neg a]at h;by_cases b:n.toList=vU;·rw[if_pos b]at h;cases h;simp[b]
 rw[if_neg b]at h;by_cases c:n.toList=JD;·rw[if_pos c]at h;cases h;simp[c]
 rw[if_neg c]at h;by_cases d:n.toList=pJ;·rw[if_pos d]at h;cases h;simp[d]
 rw[if_neg d]at h;by_cases e:n.toList=uZ;·rw[if_pos e]at h;cases h;simp[e]
 rw[if_neg e]at h;by_cases g:n.toList=GH;·rw[if_pos g]at h;cases h;simp[g]
 rw[if_neg g]at h;by_cases i:n.toList=wB;·rw[if_pos i]at h;cases h;simp[i]
 rw[if_neg i]at h;by_cases j:n.toList=wT;·rw[if_pos j]at h;cases h;simp[j]
 rw[if_neg j]at h;by_cases k:n.toList=vI;·rw[if_pos k]at h;cases h;simp[k]
 rw[if_neg k]at h;cases h
theorem k9 {b:Func}{c:Code}(g:prog.funcs[f]?=some b)(a:(b.name== "runtime.NumGoroutine")=false)(e:b.body=some c)(args:Array Va)(w:Wd):(callFunc f args).run prog w=.ok (.enter f args) w:=by
 have d:b.name≠ "runtime.NumGoroutine":=by simpa using a
 simp[callFunc,g,d,e]
theorem VK (h:zJ n=some f)(args:Array Va)(w:Wd):(callFunc f args).run prog w=.ok (.enter f args) w:=by
 rcases E6 h with⟨_,rfl⟩|⟨_,rfl⟩|⟨_,rfl⟩|⟨_,rfl⟩|⟨_,rfl⟩|⟨_,rfl⟩|⟨_,rfl⟩|⟨_,rfl⟩|⟨_,rfl⟩;·exact k9 func34 kr rfl args w
 ·exact k9 func35 kr rfl args w
 ·exact k9 func36 kr rfl args w
 ·exact k9 func37 kr rfl args w
 ·exact k9 func38 kr rfl args w
 ·exact k9 func39 kr rfl args w
 ·exact k9 func40 kr rfl args w
 ·exact k9 func41 kr rfl args w
 ·exact k9 func42 kr rfl args w
theorem SX (h:zJ n=none)(s:St)(a:List Ba):aX s (n::a)=(s,dR):=by
 unfold zJ at h;by_cases b:n.toList=pV;·rw[if_pos b]at h;cases h
 rw[if_neg b]at h;by_cases c:n.toList=vU;·rw[if_pos c]at h;cases h
 rw[if_neg c]at h;by_cases d:n.toList=JD;·rw[if_pos d]at h;cases h
 rw[if_neg d]at h;by_cases e:n.toList=pJ;·rw[if_pos e]at h;cases h
 rw[if_neg e]at h;by_cases f:n.toList=uZ;·rw[if_pos f]at h;cases h
 rw[if_neg f]at h;by_cases g:n.toList=GH;·rw[if_pos g]at h;cases h
 rw[if_neg g]at h;by_cases i:n.toList=wB;·rw[if_pos i]at h;cases h
 rw[if_neg i]at h;by_cases j:n.toList=wT;·rw[if_pos j]at h;cases h
 rw[if_neg j]at h;by_cases k:n.toList=vI;·rw[if_pos k]at h;cases h
 rw[if_neg k]at h;simp only[aX,b,c,d,e,f,g,i,j,k,if_false]
theorem RJ (F:Nat->Prop)(S:Nat)(w:Wd)(s:St)(b:Bk)(v:Va)(j:lH F S w s b v)(i:Nat)(d:jF i s)(m:i<=1000)(n:Ba)(f:Nat)(q:zJ n=some f)(a:List Ba)(g:Oa)(c:Nat)(k:Xs 1 eE w g a)(l:ln a<=c)(o:ln a<=1048570)(p:∀x∈a,x.size<=1048575):
 aW f #[E S 0,.slice g (ln a) c] w λe w'=>XT F S w s (aX s (n::a)) e w':=by
 rcases E6 q with⟨h,rfl⟩|⟨h,rfl⟩|⟨h,rfl⟩|⟨h,rfl⟩|⟨h,rfl⟩|⟨h,rfl⟩|⟨h,rfl⟩|⟨h,rfl⟩|⟨h,rfl⟩
 ·rw[show aX s (n::a)=gH s a by simp[aX,h]];exact PU F S w s b v j i d a g c k l p
 ·rw[show aX s (n::a)=k8 s a by simp[aX,h]];exact UY F S w s b v j i d a g c k l o p
 ·rw[show aX s (n::a)=vB s a by simp[aX,h]];exact XA F S w s b v j i d m a g c k
 ·rw[show aX s (n::a)=rW s a by simp[aX,h]];exact NP F S w s b v j i d a g c k m
 ·rw[show aX s (n::a)=n9 true s a by simp[aX,h]];exact TO F S w s b v j i d a g c k
 ·rw[show aX s (n::a)=n9 false s a by simp[aX,h]];exact GP F S w s b v j i d a g c k
 ·rw[show aX s (n::a)=mZ s a by simp[aX,h]];exact U9 F S w s b v j i d a g c k
 ·rw[show aX s (n::a)=oC s a by simp[aX,h]];exact R6 F S w s b v j i d m a g c k
 ·rw[show aX s (n::a)=yK s a by simp[aX,h]];exact UR F S w s b v j i d a g c
theorem ES (p:Addr)(x:Ba)(w:Wd)(a:w.cell? p=some (.string x))(c:w.frozen? p=false):
 CallsD prog 44 #[.pointer (some p)] (.panicking [{ v:=.iface 95 (.agg #[]),recovered:=false}]) w λe d w'=>
  e=rt (.tuple #[])/\d=.panicking [{ v:=.iface 95 (.agg #[]),recovered:=true}]/\w'=(w.alloc (.cells #[] 95)).setCell p (.string dR):=by
 have hta:∀w:Wd,(Instr.typeAssert (.iface 95 (.agg #[])) 20 95 true).run prog w=.ok (.tuple #[.agg #[],.bool true]) w:=λ_=>by kernel_rfl
 have hcw:(w.alloc (.cells #[] 95)).cell? p=some (.string x):=((aC (br _ w) _).cell (aA a)).trans a;have hzw:(w.alloc (.cells #[] 95)).frozen? p=false:=((aC (br _ w) _).frozen (aA a)).trans c;refine callsD_of_wpS func44 rfl λc₀ cs b=>?_;apply wpS_seq;apply wpS_region;simp[wpOpsS,go_sem,recoverD,b,ntmps44,Exit.thenS];refine wpS_of_wp ?_;go_wp2;exact⟨rfl,_,rfl,_,results_none rfl _ _ _,rfl,rfl,rfl⟩
theorem PS (p:Addr)(w:Wd):
 CallsD prog 44 #[.pointer (some p)] .returning w λe c w'=>e=rt (.tuple #[])/\c=.returning/\w'=w:=by
 refine callsD_of_wpS func44 rfl λa cs b=>?_;apply wpS_seq;apply wpS_region;simp[wpOpsS,go_sem,recoverD,b,ntmps44,Exit.thenS];refine wpS_of_wp ?_;go_wp2;refine⟨rfl,.returning,?_,_,results_none rfl _ _ _,rfl,rfl,rfl⟩;cases a;simp_all
theorem PI (F:Nat->Prop)(S:Nat)(w:Wd)(s:St)(b:Bk)(v:Va)(hS:lH F S w s b v)(kk:Nat)(zg:jF kk s)(zf:kk<=1000)(i:Ba)(hline:i.size<=1048000)(r c:Nat)(hr:w.heap[r]?=some (.map (EP S) c)):
 aW 20 #[.string i,.map (some r)] w λe w'=>ImR F S w (aX s (bG 32 i)) e w':=by
 have o:aG w (w.alloc (.cells #[.string ⟨#[]⟩] 9)):=aC (br _ _) _;have z:Hid ((w.alloc (.cells #[.string ⟨#[]⟩] 9)).heap[w.heap.size]?=some (.cells #[.string ⟨#[]⟩] 9)):=wnq w _;have P:w.heap.size<(w.alloc (.cells #[.string ⟨#[]⟩] 9)).heap.size:=by simp
 obtain⟨R,hR⟩:=cI w.heap.size;have zc:=aI hR;have Z:Hid (∀q,F q->q<R):=λq hq=>by rw[←hR];exact(hS.fl q hq).2
 have zb:Hid (8<=R):=by rw[Hid,←hR];exact hS.e.s
 have K:=kU 32 i;go_enter_defers func20,ntmps20;go_wp2_with fail;rw[hR]at z P;obtain⟨W1,zd⟩:=cI (w.alloc (.cells #[.string ⟨#[]⟩] 9));rw[zd]at o z P ⊢;have zj:=aI o;have Q:=hS.zL o;have zh:=bJ hr o;clear o hS hr zd hR;refine(IL i 32 W1 Q.e om).mono ?_;rintro e w1 ⟨⟨rfl,hX⟩,m⟩;rw[show(((32:UInt8).toNat:Nat):Int)=32 from rfl]at hX ⊢;have V:∀x∈bG 32 i,x.size<=1048575:=λx hx=>by have:=pA hx;omega
 have W:=zX 32 i;obtain⟨L,hL⟩:=bQ (bG 32 i);rw[←hL]at hX V W K ⊢;obtain⟨n,a,rfl⟩:=List.exists_cons_of_ne_nil W;have HL:=aI hL.symm;have ze:=jN hX 1 [n] a [] sm rfl;have c0:=iC hX 0 n rfl;rw[nza]at c0 ze;have l:=aAL S r c n w1 (bJ zh m);have za:=aI (bJ z.oQ m);have M:=aI (aE zj.oQ m);have zk:=aI (nll P m.size);have B:=Q.zL m;rw[llc]at K ⊢
 have C:Hid (aX s (n::a)=(s,dR)->∀j,aG w1 j->ImR F S w (aX s (n::a)) (rt (.string dR)) ((j.alloc (.cells #[] 95)).setCell (Y R 0) (.string dR))):=λhz j d=>by
  have hB:aG w ((j.alloc (.cells #[] 95)).setCell (Y R 0) (.string dR)):=(aC (aE M.oQ d) _).setCell (p:=(Y R 0)) (by show w.heap.size<=R;rw[zc.oQ];exact nlq _) _;rw[hz]
  have zl:lH F S ((j.alloc (.cells #[] 95)).setCell (Y R 0) (.string dR)) s b v:=by
   refine(B.zL (aC d (.cells #[] 95))).out ?_ ?_;·exact(aU.refl _ _).set (g:=R) (λJ=>by have:=Z.oQ R J;omega) _ _
   ·exact(B.e.zL (aC d (.cells #[] 95))).but ((aU.refl (λk=>k=R) _).set (g:=R) rfl 0 (.string dR)) (λk e=>by rw[e];exact zb.oQ)
  exact⟨⟨F,b,v,zl,λk hk=>.inl hk⟩,rfl,aU.below hB⟩
 have D:Hid (∀j,aG w1 j->j.cell? (Y R 0)=some (.string ⟨#[]⟩)/\j.frozen? (Y R 0)=false/\((j.alloc (.cells #[] 95)).setCell (Y R 0) (.string dR)).cell? (Y R 0)=some (.string dR)):=λj d=>by
  have h2:=bJ za.oQ d;have h3:=bJ h2 (aC (br _ j) (.cells #[] 95));exact⟨aB h2 rfl,by simp[World.frozen?,h2],aB (aP h3 0 (.string dR)) rfl⟩
 clear hL hX W m Q zh z;cases J:zJ n with
 |none=>
  have HZ:=aI (SX J s a);rw[J]at l;simp only[Option.map_none,Option.getD_none,Option.isSome_none]at l;obtain⟨q1,q2,q3⟩:=D.oQ w1 (br _ _);have y:=C.oQ HZ.oQ w1 (br _ _);have y:Hid _:=y;go_wp2_with (go_at_call 45;refine(jU _).mono ?_;rintro e w' ⟨rfl,rfl⟩);refine leaves_cons (f:=44) (args:=#[E R 0]) sm (by simp[go_sem]) ?_;refine(ES (Y R 0) ⟨#[]⟩ _ q1 q2).mono ?_;rintro e u' zi ⟨rfl,rfl,rfl⟩;simp[Leaves,settle,results,results20,go_sem,q3];rw[HL.oQ];exact y.oQ
 |some f=>
  have hent:=VK J;rw[J]at l;simp only[Option.map_some,Option.getD_some,Option.isSome_some]at l;have X:Hid (∀x∈a,x.size<=1048575):=λx hx=>V x (List.mem_cons_of_mem _ hx);have G:Hid (ln a<=1048570):=by rw[Hid];omega
  have HF:=aI J;clear J V;rcases Nat.eq_zero_or_pos (ln a)with h1|h1
  case' inl=>
   have h0:=aI (enl h1);go_wp2_with (go_at_call 45;refine(gQ _).mono ?_;rintro e w' ⟨⟨u,rfl⟩,t⟩;rw[t];clear t);go_wp2_with fail;have hC:=RJ F S w1 s b v B kk zg zf n f HF.oQ a (some (ya W1 0)) 0 (.inl h0.out) om G.oQ X.oQ;rw[h1]at hC;refine hC.mono ?_
  case' inr=>
   have h2:¬(ln a)=0:=om;have h3:¬a=[]:=λe=>h2 (by rw[e];rfl);go_wp2_with (go_at_call 45;refine(gQ _).mono ?_;rintro e w' ⟨⟨u,rfl⟩,t⟩;rw[t];clear t);go_wp2_with fail;refine(RJ F S w1 s b v B kk zg zf n f HF.oQ a _ (ln a) ze (nlq _) G.oQ X.oQ).mono ?_
  all_goals
   rintro e j (⟨hz,rfl,d⟩|⟨⟨F',b',v',T,N⟩,rfl,d⟩)
   ·obtain⟨q1,q2,q3⟩:=D.oQ j d;have y:=C.oQ hz j d;have y:Hid _:=y;clear hz d;go_wp2;refine leaves_cons (f:=44) (args:=#[E R 0]) sm (by simp[go_sem]) ?_;refine(ES (Y R 0) ⟨#[]⟩ _ q1 q2).mono ?_;rintro e u' zi ⟨rfl,rfl,rfl⟩;simp[Leaves,settle,results,results20,go_sem,q3];rw[HL.oQ];exact y.oQ
   ·have O:¬F R:=λh=>by have:=Z.oQ R h;omega
    have H:¬F' R:=λh=>(N R h).elim O (λh=>by have:=zk.oQ;omega);have A:=bF za.oQ d O;have q1:j.cell? (Y R 0)=some (.string ⟨#[]⟩):=aB A rfl;have q2:=jS A;have q3:∀x,(j.setCell (Y R 0) (.string x)).cell? (Y R 0)=some (.string x):=λx=>aB (aP A 0 (.string x)) rfl
    have y:Hid (∀x,x=(aX s (n::a)).2->ImR F S w (aX s (n::a)) (rt (.string x)) (j.setCell (Y R 0) (.string x))):=λx hx=>by
     have U:aU (λk=>k=R) j (j.setCell (Y R 0) (.string x)):=(aU.refl (λk=>k=R) j).set (g:=R) rfl _ _;exact⟨⟨F',b',v',T.out (U.wide (λk e=>by rw[e];exact H)) (T.e.but U (λk e=>by rw[e];exact zb.oQ)),λk hk=>(N k hk).elim .inl (λh=>.inr (nlt M.oQ.size h))⟩,by rw[hx],((aU.below M.oQ).trans d).past U (λk e=>.inr (by rw[zc.oQ,e];exact nlq _))⟩
    obtain⟨x,hx⟩:=bQ ((aX s (n::a)).2);rw[←hx];have HX:Hid _:=y.oQ x hx;clear d T N O H A hx y;go_wp2;refine leaves_cons (f:=44) (args:=#[E R 0]) sm (by simp[go_sem]) ?_;refine(PS (Y R 0) _).mono ?_;rintro e u' zi ⟨rfl,rfl,rfl⟩;simp[Leaves,settle,results,results20,go_sem,q3];rw[HL.oQ];exact HX.oQ
