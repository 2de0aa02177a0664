import Derived.Test.YtoolgmmljacfmaaGreatDoorCh1
import Derived.Test.YtoolgmmljacfmaaGreatDoorGd0
import Derived.Test.YtoolgmmljacfmaaGreatDoorEv0
set_option maxRecDepth 100000
set_option maxHeartbeats 16000000
open List renaming length → ln
open Go.Proofs.Tryz Go.RowKit
namespace Go.Proofs.YtoolgmmljacfmaaGreatDoor
open Go.Shelf
attribute [local go_sem] Oper.semAt_some
variable {P Z B:Nat}{b:Bk}{x:Wx}{d i k:Int}{a c f:Bool}{nm:Ba}{g:List Bx}{y w:Hx}{l:List Co}{n w':Wd}
def Tk1 (P:Nat)(b:Bk)(x:Wx)(v1:Bool)(j:Nat)(v:Value)(_w:World):Prop:=
 match j with
 |0=>v=(E P 0)
 |1=>v=(E P 0)
 |2=>v=(E P 0)
 |3=>v=(E P 1)
 |4=>v=.slice b.fa b.fl.length b.fc
 |5=>v=x.val
 |6=>v=.bool v1
 |_=>True
def QX (P:Nat)(b:Bk)(x:Wx)(d i k:Int)(fr:Bool)(Z:Nat)(j:Nat)(vs:Nat->Value)(w:World):Prop:=
 match j with
 |0=>vs 0=(E P 0)
 |1=>vs 1=(E P 0)
 |2=>vs 2=(E P 0)
 |3=>vs 3=b.val
 |4=>vs 4=x.val
 |5=>vs 5=.tuple #[gF d i k,.bool fr]
 |6=>vs 6=.tuple #[gF d i k,.bool fr]
 |7=>vs 7=gF d i k
 |8=>vs 8=.bool fr
 |9=>∃B,vs 9=(E B 0)/\Z<=B/\w.heap[B]?=some (jE 0 0 0)
 |_=>True
def dp7 (j:Nat):List Nat:=[j]
def fr7 (j:Nat):Bool:=j==8
def Pf7 (fr:Bool)(_:Nat)(v:Value):Prop:=v=.bool fr
theorem QX.zL (j:Nat)(c:Nat->Va)(w w':Wd)(h:QX P b x d i k a Z j c w)(l:aG w w'):QX P b x d i k a Z j c w':=by
 unfold QX at h ⊢;split
 all_goals first
  |exact h
  |(obtain⟨B,e,f,g⟩:=h;exact⟨B,e,f,bJ g l⟩)
  |trivial
theorem QX.loc (j:Nat)(e a:Nat->Va)(w:Wd)(f:∀q∈dp7 j,e q=a q)(h:QX P b x d i k c Z j e w):QX P b x d i k c Z j a w:=by
 unfold QX at h ⊢;split at h
 all_goals first
  |(rw[←f _ (by simp[dp7])];exact h)
  |trivial
theorem QX.free (j:Nat)(e:Nat->Va)(w:Wd)(c:fr7 j=true)(h:QX P b x d i k a Z j e w):Pf7 a j (e j):=by
 simp[fr7]at c;subst c;exact h
def G7 (W:World)(d i k:Int)(fr:Bool)(t:Nat)(vs:Nat->Value)(w':World):Prop:=
 ∃w0 B,aG W w0/\vs 6=.tuple #[gF d i k,.bool fr]/\vs 7=gF d i k/\vs 9=(E B 0)/\W.heap.size<=B/\w0.heap[B]?=some (jE 0 0 0)/\w'=if t=11 then((w0.setCell (Y B 0) (I d)).setCell (Y B 1) (I i)).setCell (Y B 2) (I k)else w0
def TkA (P B:Nat)(nm:ByteArray)(x:Wx)(d i k:Int)(tl:List Bx)(Z:Nat)(j:Nat)(v:Value)(w:World):Prop:=
 match j with
 |0=>v=(E P 0)
 |1=>v=(E P 0)
 |2=>v=(E P 3)
 |3=>v=.string nm
 |4=>v=x.val
 |5=>v=(E B 1)
 |6=>v=I i
 |7=>v=(E B 2)
 |8=>v=I k
 |9=>v=(E B 0)
 |10=>v=I d
 |11=>aN w Z v tl
 |12=>∃a c,v=Hx.val ⟨nm,a,tl,c,none,[],0⟩/\aN w Z (.slice a tl.length c) tl
 |13=>∃K,v=(E K 0)/\Z<=K/\w.heap[K]?=some (.cells #[.string ⟨#[]⟩,ms,ms] 74)
 |_=>True
theorem TkA.zL (j:Nat)(v:Va)(w w':Wd)(h:TkA P B nm x d i k g Z j v w)(f:aG w w'):TkA P B nm x d i k g Z j v w':=by
 unfold TkA at h ⊢;split
 all_goals first
  |exact h
  |exact aN.zL h f
  |(obtain⟨a,c,e,b⟩:=h;exact⟨a,c,e,aN.zL b f⟩)
  |(obtain⟨B,e,b,l⟩:=h;exact⟨B,e,b,bJ l f⟩)
  |trivial
def Q0 (P:Nat)(b:Bk)(i:Nat)(y:Hx)(Z:Nat)(j:Nat)(vs:Nat->Value)(w:World):Prop:=
 match j with
 |0=>vs 0=(E P 0)
 |1=>vs 1=(E P 0)
 |2=>vs 2=(E P 0)
 |3=>vs 3=(E P 0)
 |4=>vs 4=(E P 2)
 |5=>vs 5=.slice b.ha b.hl.length b.hc
 |6=>vs 6=(E P 0)
 |7=>vs 7=(E P 0)
 |8=>vs 8=(E P 4)
 |9=>vs 9=I (i:Int)
 |10=>vs 10=y.val
 |11=>∃V,vs 11=.slice (some (Y V 0)) 1 1/\Z<=V/\w.heap[V]?=some (.cells #[.string y.n,.slice y.ta y.tl.length y.tc,.slice y.na y.nl.length y.nc] 74)
 |_=>True
def dpb (j:Nat):List Nat:=[j]
def frb (j:Nat):Bool:=j==0
def Gt (W:World)(b:Bk)(i:Nat)(y:Hx)(z:Nat)(t:Nat)(vs:Nat->Value)(w':World):Prop:=
 match t with
 |13=>∃w0 a' c',aG W w0/\vs 12=.slice a' (b.hl.length+1) c'/\bW 74 3 Hx.cells w' z (.slice a' (b.hl.length+1) c') (b.hl.take i++y::b.hl.drop i)/\c'<=maxLen/\aU (λq=>b.ha.map Addr.block=some q) w0 w'
 |12=>aG W w'/\vs 5=.slice b.ha b.hl.length b.hc/\vs 9=I (i:Int)/\∃V,vs 11=.slice (some (Y V 0)) 1 1/\W.heap.size<=V/\w'.heap[V]?=some (.cells #[.string y.n,.slice y.ta y.tl.length y.tc,.slice y.na y.nl.length y.nc] 74)
 |_=>True
def Pfb (P:Nat)(_:Nat)(v:Value):Prop:=v=(E P 0)
theorem Q0.zL (j:Nat)(a:Nat->Va)(w w':Wd)(h:Q0 P b B y Z j a w)(f:aG w w'):Q0 P b B y Z j a w':=by
 unfold Q0 at h ⊢;split
 all_goals first
  |exact h
  |(obtain⟨V,e,c,d⟩:=h;exact⟨V,e,c,bJ d f⟩)
  |trivial
theorem Q0.loc (j:Nat)(c a:Nat->Va)(w:Wd)(d:∀q∈dpb j,c q=a q)(h:Q0 P b B y Z j c w):Q0 P b B y Z j a w:=by
 unfold Q0 at h ⊢;split at h
 all_goals first
  |(rw[←d _ (by simp[dpb])];exact h)
  |trivial
theorem Q0.free (j:Nat)(c:Nat->Va)(w:Wd)(a:frb j=true)(h:Q0 P b B y Z j c w):Pfb P j (c j):=by
 simp[frb]at a;subst a;exact h
def jQ (b:Bk)(f:Bool)(x:Wx):Int:=if eR b.fl x=false then 2 else if f=true then 3 else if 16<=b.hl.length then 4 else(match tH b x with|[]=>5|_::_=>0)
def iA (b:Bk)(f:Bool)(x:Wx):Value:=if jQ b f x=0 then(match tH b x with|[]=>gF 0 0 0|c::_=>gF c.d c.i c.k)else gF 0 0 0
def HU (nm:ByteArray)(x:Wx)(c:Co):Hx:=⟨nm,none,bL x c.i c.k c.d,0,none,[],0⟩
def mO (b:Bk)(nm:ByteArray)(i:Nat)(f:Bool)(x:Wx):List Hx:=if jQ b f x=0 then(match tH b x with|[]=>b.hl|c::_=>b.hl.take i++HU nm x c::b.hl.drop i)else b.hl
theorem SS (l r:List Hx)(h:y.Like w):aT (l++y::r) (l++w::r):=by
 have:=(aT.refl (l++w::r)).set (ln l) h;simpa using this
theorem YE (h:gX l=.tuple #[gF d i k,.bool false]):l=[]:=by
 cases l with
 |nil=>rfl
 |cons c r=>simp[gX]at h
theorem RL (h:gX l=.tuple #[gF d i k,.bool true]):∃r,l=⟨d,i,k⟩::r:=by
 cases l with
 |nil=>simp[gX]at h
 |cons c r=>
  simp[gX]at h;obtain⟨a,b,e⟩:=h;exact⟨r,by rw[←a,←b,←e]⟩
theorem mP.after (h:mP Z P n b nm B f)(e:aU (λk=>n.heap.size<=k) n w'):mP Z P w' b nm B f:=
 ⟨bF h.p e (λg=>by have:=(cE h.p);omega),⟨h.a.f.butRow e (λk _ _ _ j g=>by have:=j.lt;omega),h.a.h.butRow e (λk _ _ _ j g=>by have:=j.lt;omega),λx hx=>(h.a.t x hx).but e (λq l g=>by have:=((h.a.t x hx).bs_in q l).2;omega),h.a.d,h.a.c,h.a.cf⟩,h.zp⟩
theorem TE (z P:Nat)(b:Bk)(nm:Ba)(i:Nat)(f:Bool)(x:Wx)(w:Wd)(hI:mP z P w b nm i f)(hzw:z<=w.heap.size)(hA:iX w b)(hx:iL w x)(qn:ln b.hl<=64)(hi:i<=ln b.hl):
 aW 123 #[E P 0,x.val] w λe w'=>∃zs:Bk,e=rt (.tuple #[iA b f x,rB (jQ b f x)])/\zs.now=b.now/\zs.fl=b.fl/\aT (mO b nm i f x) zs.hl/\mP z P w' zs nm i f/\aU (λk=>z<=k) w w':=by
 have N0:aG w ((w.alloc x.obj).alloc (jE 0 0 0)):=aC (aC (br _ _) _) _;have X0:=(halq (w.alloc x.obj) (jE 0 0 0) w.heap.size sm).trans (wnq w x.obj);have R0:=wnq (w.alloc x.obj) (jE 0 0 0);rw[wsa]at R0;have N:Hid _:=hI;obtain⟨v1,xk⟩:∃v,eR b.fl x=v:=⟨_,rfl⟩;have zb:Hid _:=xk;clear hI xk;go_enter func123,ntmps123;go_wp2_with fail;obtain⟨W0,xd⟩:=cI ((w.alloc x.obj).alloc (jE 0 0 0));rw[xd]at N0 X0 R0 ⊢;have hz1:w.heap.size+1<W0.heap.size:=(cE R0);have P0:=bJ N.oQ.p N0;obtain⟨p0,p1,p2,p3,p4,p5⟩:=rG P0;obtain⟨x0,x1,x2,x3,x4,x5,x6,x7⟩:=gT X0;have qa:Hid _:=X0;have xw:Hid _:=R0;have zm:∀(X:Wd) (u v y:Va),aU (λk=>k=w.heap.size+1) X (((X.setCell (Y (w.heap.size+1) 0) u).setCell (Y (w.heap.size+1) 1) v).setCell (Y (w.heap.size+1) 2) y):=λX u v y=>(((aU.refl (λk=>k=w.heap.size+1) X).set (g:=w.heap.size+1) rfl _ _).set (g:=w.heap.size+1) rfl _ _).set (g:=w.heap.size+1) rfl _ _;clear xd X0 R0 P0;refine pG 7 [some 9,some 10,some 11,some 12,some 13,some 14,some 15] (Tk1 P b x v1) (λ_ _ _ _ h _=>h) ?step ?fin
 case step=>
  intro Z o j w' M s l C;match Z,M with
  |0,_=>
   cases s;gi_wp2;exact⟨_,uhx,rfl,br _ _⟩
  |1,_|2,_|3,_=>
   cases s;simp[Region.binds,Tk1]at C;simp only[aD,Act.put,C];gi_wp2;exact⟨_,by simp[aH,C],rfl,br _ _⟩
  |4,_=>
   cases s;have d3:j 3=_:=Zq C 3;have k1:=ctq l p1;gi_wp2;exact⟨_,by simp[aH,d3],rfl,br _ _⟩
  |5,_=>
   cases s;have q0:=ctq l x0;have q1:=ctq l x1;have q2:=ctq l x2;have q3:=ctq l x3;have q4:=ctq l x4;have q5:=ctq l x5;have q6:=ctq l x6;have q7:=ctq l x7;gi_wp2;exact⟨_,uhx,rfl,br _ _⟩
  |6,_=>
   cases s;have d4:j 4=_:=Zq C 4;have d5:j 5=_:=Zq C 5;simp only[aD,Act.put];rw[d4,d5];gi_wp2_with fail;refine tqx ?_;refine(cw.2 (vE b.fl x b.fa b.fc w' ((hA.hf.zL N0).zL l) hA.hnf hA.hcap hA.hc2 hA.hs ((hx.hi.zL N0).zL l) hx.hf)).mono ?_;rintro e w5 ⟨rfl,zg⟩;rw[zb.oQ];gi_wp2;exact⟨_,by simp[aH,d4,d5],rfl,zg⟩
  |q+7,h=>omega
 case fin=>
  intro j w1 l H;have G:j 6=_:=H 6 dz;have N1:=aE N0 l;have X1:=bJ qa.oQ l;have R1:=bJ xw.oQ l;have P1:=bJ (bJ N.oQ.p N0) l;have hs1:=l.size;clear H l p0 p1 p2 p3 p4 p5 x0 x1 x2 x3 x4 x5 x6 x7;simp only[lds,ldz,aD,Act.put];rw[G];clear G;generalize j 0=u0,j 1=u1,j 2=u2,j 3=u3,j 4=u4,j 5=u5;obtain⟨p0,p1,p2,p3,p4,p5⟩:=rG P1;obtain⟨x0,x1,x2,x3,x4,x5,x6,x7⟩:=gT X1;obtain⟨r0,r1,r2⟩:=aM R1;have rf:=jS R1;have qb:Hid _:=X1;have xx:Hid _:=R1;have yp:Hid _:=P1;clear X1 R1 P1;have zi:Hid (aU (λk=>w.heap.size<=k) w (((w1.setCell (Y (w.heap.size+1) 0) (I 0)).setCell (Y (w.heap.size+1) 1) (I 0)).setCell (Y (w.heap.size+1) 2) (I 0))):=(aU.below N1).trans ((zm w1 _ _ _).wide (λk T=>by have zl:k=w.heap.size+1:=T;show w.heap.size<=k;omega));have HA:Hid _:=N.oQ.after zi.out;have HW:Hid (aU (λk=>z<=k) w _):=zi.out.wide (λk T=>by have zl:w.heap.size<=k:=T;show z<=k;omega);cases v1 with
  |false=>
   gi_wp2_with fail;go_wp2_with fail;have Q:jQ b f x=2:=by unfold jQ;rw[zb.oQ];rfl
   have HL:mO b nm i f x=b.hl:=by unfold mO;rw[Q];rfl
   have HV:iA b f x=gF 0 0 0:=by unfold iA;rw[Q];rfl
   exact bpr (v:=.tuple #[gF 0 0 0,rB 2]) (by simp[results,results123,go_sem,r0,r1,r2];rfl) rfl ⟨b,by rw[Q,HV],rfl,rfl,by rw[HL];exact aT.refl _,HA.oQ,HW.oQ⟩
  |true=>
  cases f with
  |true=>
   gi_wp2_with fail;go_wp2_with fail;have Q:jQ b true x=3:=by unfold jQ;rw[zb.oQ];rfl
   have HL:mO b nm i true x=b.hl:=by unfold mO;rw[Q];rfl
   have HV:iA b true x=gF 0 0 0:=by unfold iA;rw[Q];rfl
   exact bpr (v:=.tuple #[gF 0 0 0,rB 3]) (by simp[results,results123,go_sem,r0,r1,r2];rfl) rfl ⟨b,by rw[Q,HV],rfl,rfl,by rw[HL];exact aT.refl _,HA.oQ,HW.oQ⟩
  |false=>
  by_cases ye:16<=ln b.hl
  ·have xf:decide ((16:Int)<=(ln b.hl:Int))=true:=by simp;omega
   gi_wp2_with fail;go_wp2_with fail;have Q:jQ b false x=4:=by unfold jQ;rw[zb.oQ,if_neg dz,if_neg dz,if_pos ye]
   have HL:mO b nm i false x=b.hl:=by unfold mO;rw[Q];rfl
   have HV:iA b false x=gF 0 0 0:=by unfold iA;rw[Q];rfl
   exact bpr (v:=.tuple #[gF 0 0 0,rB 4]) (by simp[results,results123,go_sem,r0,r1,r2];rfl) rfl ⟨b,by rw[Q,HV],rfl,rfl,by rw[HL];exact aT.refl _,HA.oQ,HW.oQ⟩
  have xf:decide ((16:Int)<=(ln b.hl:Int))=false:=by simp;omega
  obtain⟨d,iw,k,fr,zj⟩:=EZ (tH b x);have HB:=aI zj;clear zj;gi_wp2_with fail;go_wp2_with fail;refine ZC 6 10 11 [some 35,some 36,some 37,some 38,some 39,some 40,some 34,some 41,some 42,some 6] fr7 dp7 (QX P b x d iw k fr w1.heap.size) (Pf7 fr) (G7 w1 d iw k fr) QX.zL QX.loc QX.free ?step ?free ?g0 ?gf ?store ?fin
  case step=>
   intro Z o j w' M s l C;match Z,M with
   |0,_=>
    cases s;gi_wp2;exact⟨_,uhx,rfl,br _ _⟩
   |1,_=>
    cases s;have d0:j 0=_:=Zq C 0;gi_wp2;exact⟨_,by simp[aH,d0],rfl,br _ _⟩
   |2,_=>
    cases s;have d1:j 1=_:=Zq C 1;gi_wp2;exact⟨_,by simp[aH,d1],rfl,br _ _⟩
   |3,_=>
    cases s;have d2:j 2=_:=Zq C 2;have k0:=ctq l p0;have k1:=ctq l p1;have k2:=ctq l p2;gi_wp2;exact⟨_,by simp[aH,d2],rfl,br _ _⟩
   |4,_=>
    cases s;have q0:=ctq l x0;have q1:=ctq l x1;have q2:=ctq l x2;have q3:=ctq l x3;have q4:=ctq l x4;have q5:=ctq l x5;have q6:=ctq l x6;have q7:=ctq l x7;gi_wp2;exact⟨_,uhx,rfl,br _ _⟩
   |5,_=>
    cases s;have d3:j 3=_:=Zq C 3;have d4:j 4=_:=Zq C 4;simp only[aD,Act.put];rw[d3,d4];gi_wp2_with fail;refine tqx ?_;refine(cw.2 (cw.1 (KV 10 om b x w' ((hA.zL N1).zL l) ((hx.zL N1).zL l)))).mono ?_;rintro e w5 ⟨rfl,zg⟩;rw[HB.oQ];gi_wp2;exact⟨_,by simp[aH,d3,d4],rfl,zg⟩
   |6,_=>
    cases s;have d5:j 5=_:=Zq C 5;gi_wp2;exact⟨_,by simp[aH,d5],rfl,br _ _⟩
   |7,_|8,_=>
    cases s;have G:j 6=_:=Zq C 6;gi_wp2;exact⟨_,by simp[aH,G],rfl,br _ _⟩
   |9,_=>
    cases s;gi_wp2;exact⟨_,uhx,⟨w'.heap.size,rfl,l.size,wnq w' _⟩,aC (br _ _) _⟩
   |q+10,h=>omega
  case free=>
   intro Z o j w' t M S s ht qp O C;obtain rfl:Z=8:=by simpa[fr7]using S
   cases s;have G:j 6=.tuple #[gF d iw k,.bool fr]:=by obtain⟨_,_,_,G,_⟩:=O;exact G
   clear O;simp only[aD,Act.put];rw[G];gi_wp2
   first
    |exact⟨.bool fr,by simp[aH,G],rfl,rfl⟩
    |exact⟨.bool fr,by simp[aH,G],rfl⟩
  case g0=>
   intro j w' l H;obtain⟨B,e,h1,h2⟩:=H 9 dz rfl;exact⟨w',B,l,H 6 dz rfl,H 7 dz rfl,e,h1,h2,rfl⟩
  case gf=>
   intro t j w' Z v S O;obtain rfl:Z=8:=by simpa[fr7]using S
   exact O
  case store=>
   intro t o j w' qd qe s O C;obtain rfl:t=10:=om;cases s;obtain⟨w0,B,qg,G,d7,d9,xa,J,hw⟩:=O;rw[if_neg dz]at hw;subst hw;obtain⟨b0,b1,b2⟩:=aM J;have bf:=jS J;have xr:=aI J;clear J;simp only[aD,Act.put];rw[d9,d7];gi_wp2;exact⟨undef,by simp[aH,G,d7,d9],w',B,qg,G,d7,d9,xa,xr.oQ,by rw[if_pos rfl]⟩
  case fin=>
   intro j w2' O H;have d8:j 8=_:=H 8 dz rfl;obtain⟨w2,B,l,G,d7,d9,xa,J,xl⟩:=O;rw[if_pos rfl]at xl;subst xl;have N2:=aE N1 l;have qc:Hid _:=bJ qb.oQ l;have xy:Hid _:=bJ xx.oQ l;have xt:Hid _:=bJ yp.oQ l;obtain⟨b0,b1,b2⟩:=aM J;have bf:=jS J;have B3:=aP (aP (aP J 0 (I d)) 1 (I iw)) 2 (I k);have bB:=(((aU.refl (λq=>q=B) w2).set (g:=B) rfl 0 (I d)).set (g:=B) rfl 1 (I iw)).set (g:=B) rfl 2 (I k);clear H l J p0 p1 p2 p3 p4 p5 x0 x1 x2 x3 x4 x5 x6 x7 r0 r1 r2 rf;simp only[lds,ldz,aD,Act.put];rw[G,d7,d8,d9];clear G d7 d8 d9;generalize j 0=u0,j 1=u1,j 2=u2,j 3=u3,j 4=u4,j 5=u5;have N3:=bB.under N2 (nlq _) (λq m=>by omega);have yt:Hid _:=bF qc.oQ bB (λe=>by omega);have zc:Hid _:=bF xy.oQ bB (λe=>by omega);have zq:Hid _:=bF xt.oQ bB (λe=>by have:=(cE yp.oQ);omega);obtain⟨w3,yk⟩:=cI (((w2.setCell (Y B 0) (I d)).setCell (Y B 1) (I iw)).setCell (Y B 2) (I k));rw[yk]at B3 bB N3 yt zc zq ⊢;have yb:=aI B3;obtain⟨r0,r1,r2⟩:=aM zc.oQ;have rf:=jS zc.oQ;clear B3 bB;cases fr with
   |false=>
    gi_wp2_with fail;go_wp2_with fail;clear yk;have Q:jQ b false x=5:=by unfold jQ;rw[zb.oQ,if_neg dz,if_neg dz,if_neg ye,YE HB.oQ]
    have HL:mO b nm i false x=b.hl:=by unfold mO;rw[Q];rfl
    have HV:iA b false x=gF 0 0 0:=by unfold iA;rw[Q];rfl
    have zi:aU (λk=>w.heap.size<=k) w (((w3.setCell (Y (w.heap.size+1) 0) (I 0)).setCell (Y (w.heap.size+1) 1) (I 0)).setCell (Y (w.heap.size+1) 2) (I 0)):=(aU.below N3).trans ((zm w3 _ _ _).wide (λk T=>by have zl:k=w.heap.size+1:=T;show w.heap.size<=k;omega));exact bpr (v:=.tuple #[gF 0 0 0,rB 5]) (by simp[results,results123,go_sem,r0,r1,r2];rfl) rfl ⟨b,by rw[Q,HV],rfl,rfl,by rw[HL];exact aT.refl _,N.oQ.after zi,zi.wide (λk T=>by have zl:w.heap.size<=k:=T;show z<=k;omega)⟩
   |true=>
   obtain⟨rest,yh⟩:=RL HB.oQ;have ym:=aI yh;have zk:jQ b false x=0:=by unfold jQ;rw[zb.oQ,if_neg dz,if_neg dz,if_neg ye,yh]
   have yc:=aI zk;obtain⟨D,xj⟩:=cI (bL x iw k d);have ys:=aI xj;clear yh zk xj;gi_wp2_with fail;go_wp2_with fail;clear yk r0 r1 r2 rf;obtain⟨p0,p1,p2,p3,p4,p5⟩:=rG zq.oQ;obtain⟨x0,x1,x2,x3,x4,x5,x6,x7⟩:=gT yt.oQ;obtain⟨c0,c1,c2⟩:=aM yb.oQ;refine pG 14 [some 47,some 48,some 49,some 50,some 51,some 52,some 53,some 54,some 55,some 56,some 57,some 58,some 59,some 8] (TkA P B nm x d iw k D w3.heap.size) TkA.zL ?step ?fin
   case step=>
    intro Z o j w' M s l C;match Z,M with
    |0,_|5,_|7,_|9,_=>
     cases s;gi_wp2;exact⟨_,uhx,rfl,br _ _⟩
    |1,_=>
     cases s;have d0:j 0=_:=Zq C 0;gi_wp2;exact⟨_,by simp[aH,d0],rfl,br _ _⟩
    |2,_=>
     cases s;have d1:j 1=_:=Zq C 1;gi_wp2;exact⟨_,by simp[aH,d1],rfl,br _ _⟩
    |3,_=>
     cases s;have d2:j 2=_:=Zq C 2;have k3:=ctq l p3;gi_wp2;exact⟨_,by simp[aH,d2],rfl,br _ _⟩
    |4,_=>
     cases s;have q0:=ctq l x0;have q1:=ctq l x1;have q2:=ctq l x2;have q3:=ctq l x3;have q4:=ctq l x4;have q5:=ctq l x5;have q6:=ctq l x6;have q7:=ctq l x7;gi_wp2;exact⟨_,uhx,rfl,br _ _⟩
    |6,_=>
     cases s;have d5:j 5=_:=Zq C 5;have k1:=ctq l c1;gi_wp2;exact⟨_,by simp[aH,d5],rfl,br _ _⟩
    |8,_=>
     cases s;have d7:j 7=_:=Zq C 7;have k1:=ctq l c2;gi_wp2;exact⟨_,by simp[aH,d7],rfl,br _ _⟩
    |10,_=>
     cases s;have d9:j 9=_:=Zq C 9;have k1:=ctq l c0;gi_wp2;exact⟨_,by simp[aH,d9],rfl,br _ _⟩
    |11,_=>
     cases s;have d4:j 4=_:=Zq C 4;have G:j 6=_:=Zq C 6;have d8:j 8=_:=Zq C 8;have zu:j 10=_:=Zq C 10;simp only[aD,Act.put];rw[d4,G,d8,zu];gi_wp2_with fail;refine tqx ?_;refine(cw.2 (sD x iw k d w' ((hx.hi.zL N3).zL l) hx.hc hx.hf.yn)).mono ?_;rintro e w5 ⟨⟨v5,rfl,yg⟩,zg⟩;rw[ys.oQ]at yg;have zn:Hid _:=aN.weak yg (base':=w3.heap.size) l.size;clear yg;gi_wp2;exact⟨_,by simp[aH,d4,G,d8,zu],zn.oQ,zg⟩
    |12,_=>
     cases s;have d3:j 3=_:=Zq C 3;have zv:aN w' w3.heap.size (j 11) D:=Zq C 11;obtain⟨a,c,yx,_⟩:=zv.slice;rw[yx]at zv;have HO:Hid _:=zv;clear zv;gi_wp2;exact⟨_,by simp[aH,d3,yx],⟨a,c,rfl,HO.oQ⟩,br _ _⟩
    |13,_=>
     cases s;gi_wp2;exact⟨_,uhx,⟨w'.heap.size,rfl,l.size,wnq w' _⟩,aC (br _ _) _⟩
    |q+14,h=>omega
   case fin=>
    intro j w4 l H;obtain⟨a,c,zd,yf⟩:∃a c,j 12=Hx.val ⟨nm,a,D,c,none,[],0⟩/\aN w4 w3.heap.size (.slice a (ln D) c) D:=H 12 dz;obtain⟨K,yw,hKz,ze⟩:∃K,j 13=(E K 0)/\w3.heap.size<=K/\w4.heap[K]?=some (.cells #[.string ⟨#[]⟩,ms,ms] 74):=H 13 dz;have N4:=aE N3 l;have hs4:=l.size;have xz:Hid _:=bJ zc.oQ l;have xu:Hid _:=bJ zq.oQ l;have xp:Hid _:=bJ yb.oQ l;obtain⟨k0,k1,k2⟩:=aM ze;have kf:=jS ze;have K5:=aP (aP (aP ze 0 (.string nm)) 1 (.slice a (ln D) c)) 2 (ms);have bK:=(((aU.refl (λq=>q=K) w4).set (g:=K) rfl 0 (.string nm)).set (g:=K) rfl 1 (.slice a (ln D) c)).set (g:=K) rfl 2 (ms);have hlen4:B<w3.heap.size:=(cE yb.oQ);have hPw:P<w3.heap.size:=(cE zq.oQ);have hRw:w.heap.size+1<w3.heap.size:=(cE zc.oQ);have N5:=bK.under N4 (nlq _) (λq m=>by omega);have yq:Hid _:=bF xz.oQ bK (λe=>by omega);have yd:Hid _:=bF xu.oQ bK (λe=>by omega);have yl:Hid _:=bF xp.oQ bK (λe=>by omega)
    have zn:Hid (aN (((w4.setCell (Y K 0) (.string nm)).setCell (Y K 1) (.slice a (ln D) c)).setCell (Y K 2) (ms)) w3.heap.size (.slice a (ln D) c) D):=aN.but yf bK (λu e T=>by
     have zl:u.block=K:=T;rcases yf with⟨e1,_⟩|⟨g',yu,e1,_,_,f',W,_⟩;·simp only[vsi]at e1;rw[e1.1]at e;cases e
     ·simp only[vsi]at e1;rw[e1.1]at e;cases e;obtain⟨zt,A,_⟩:=W;have qm:g'=K:=zl;rw[qm,ze]at A;cases A)
    have qo:=bK.size;clear H l yf ze p0 p1 p2 p3 p4 p5 x0 x1 x2 x3 x4 x5 x6 x7 c0 c1 c2;simp only[lds,ldz,aD,Act.put];rw[zd,yw];clear zd yw;generalize j 0=u0,j 1=u1,j 2=u2,j 3=u3,j 4=u4,j 5=u5,j 6=u6,j 7=u7,j 8=u8,j 9=u9,j 10=u10,j 11=u11;obtain⟨w5,xm⟩:=cI (((w4.setCell (Y K 0) (.string nm)).setCell (Y K 1) (.slice a (ln D) c)).setCell (Y K 2) (ms));rw[xm]at K5 bK N5 yq yd yl zn qo;have xs:=aI K5;clear K5 bK;gi_wp2_with fail;go_wp2_with fail;clear xm k0 k1 k2 kf;obtain⟨p0,p1,p2,p3,p4,p5⟩:=rG yd.oQ;obtain⟨y0,y1,y2⟩:=aM xs.oQ;have xn:Hid (∀w',aG w5 w'->bW 74 3 Hx.cells w' z (hs b) b.hl):=λw' hb=>(N.oQ.a.h.zL N5).zL hb;refine ZC 6 12 13 [some 60,some 61,some 62,some 63,some 64,some 65,some 66,some 67,some 68,some 69,some 70,some 71,some 72] frb dpb (Q0 P b i ⟨nm,a,D,c,none,[],0⟩ w5.heap.size) (Pfb P) (Gt w5 b i ⟨nm,a,D,c,none,[],0⟩ z) Q0.zL Q0.loc Q0.free ?step ?free ?g0 ?gf ?store ?fin
    case step=>
     intro Z o j w' M s l C;match Z,M with
     |0,_|1,_|6,_=>
      cases s;gi_wp2;exact⟨_,uhx,rfl,br _ _⟩
     |2,_=>
      cases s;have d1:j 1=_:=Zq C 1;gi_wp2;exact⟨_,by simp[aH,d1],rfl,br _ _⟩
     |3,_=>
      cases s;have d2:j 2=_:=Zq C 2;gi_wp2;exact⟨_,by simp[aH,d2],rfl,br _ _⟩
     |4,_=>
      cases s;have d3:j 3=_:=Zq C 3;gi_wp2;exact⟨_,by simp[aH,d3],rfl,br _ _⟩
     |5,_=>
      cases s;have d4:j 4=_:=Zq C 4;have k1:=ctq l p2;gi_wp2;exact⟨_,by simp[aH,d4],rfl,br _ _⟩
     |7,_=>
      cases s;have G:j 6=_:=Zq C 6;gi_wp2;exact⟨_,by simp[aH,G],rfl,br _ _⟩
     |8,_=>
      cases s;have d7:j 7=_:=Zq C 7;gi_wp2;exact⟨_,by simp[aH,d7],rfl,br _ _⟩
     |9,_=>
      cases s;have d8:j 8=_:=Zq C 8;have k1:=ctq l p4;gi_wp2;exact⟨_,by simp[aH,d8],rfl,br _ _⟩
     |10,_=>
      cases s;have k1:=ctq l y0;have k2:=ctq l y1;have k3:=ctq l y2;gi_wp2;exact⟨_,uhx,rfl,br _ _⟩
     |11,_=>
      cases s;have zu:j 10=_:=Zq C 10;gi_wp2;exact⟨_,by simp[aH,zu],⟨w'.heap.size,rfl,l.size,wnq w' _⟩,aC (br _ _) _⟩
     |q+12,h=>omega
    case free=>
     intro Z o j w' t M S s ht qp O C;obtain rfl:Z=0:=by simpa[frb]using S
     cases s;clear O;gi_wp2
     first
      |exact⟨(E P 0),uhx,rfl,rfl⟩
      |exact⟨(E P 0),uhx,rfl⟩
    case g0=>
     intro j w' l H;exact⟨l,H 5 dz rfl,H 9 dz rfl,H 11 dz rfl⟩
    case gf=>
     intro t j w' Z v S O;obtain rfl:Z=0:=by simpa[frb]using S
     exact O
    case store=>
     intro t o j w' qd qe s O C;obtain rfl:t=12:=om;cases s;obtain⟨l,d5,d9,V,yv,hVz,qi⟩:aG w5 w'/\j 5=(hs b)/\j 9=I (i:Int)/\∃V,j 11=(sl V 0 1 1)/\w5.heap.size<=V/\w'.heap[V]?=some (.cells #[.string nm,.slice a (ln D) c,ms] 74):=O;simp only[aD,Act.put];rw[d5,d9,yv];gi_wp2_with fail;refine tqx ?_;refine(cw.2 (ON z b.hl b.ha b.hc i V ⟨nm,a,D,c,none,[],0⟩ w' (xn.oQ w' l) N.oQ.a.c hi qn qi (by have:=l.size;have:=N5.size;omega))).mono ?_;rintro e w6 ⟨a',c',rfl,xh,qj,L⟩;have HF:Hid (∃w0 a0 c0,aG w5 w0/\Value.slice a' (ln b.hl+1) c'=.slice a0 (ln b.hl+1) c0/\bW 74 3 Hx.cells w6 z (.slice a0 (ln b.hl+1) c0) (b.hl.take i++⟨nm,a,D,c,none,[],0⟩::b.hl.drop i)/\c0<=maxLen/\aU (λq=>b.ha.map Addr.block=some q) w0 w6):=⟨w',a',c',l,rfl,xh,qj,L⟩;clear xh L;gi_wp2;exact⟨_,by simp[aH,d5,d9,yv],HF.oQ⟩
    case fin=>
     intro j w7 O H;have d0:j 0=_:=H 0 dz rfl;obtain⟨w6,a',c',L,zd,xi,qk,zh⟩:∃w6 a' c',aG w5 w6/\j 12=.slice a' (ln b.hl+1) c'/\bW 74 3 Hx.cells w7 z (.slice a' (ln b.hl+1) c') (b.hl.take i++⟨nm,a,D,c,none,[],0⟩::b.hl.drop i)/\c'<=maxLen/\aU (λq=>b.ha.map Addr.block=some q) w6 w7:=O
     have R:∀q,b.ha.map Addr.block=some q->q<w.heap.size/\q≠P/\z<=q/\∃n f,w.rowIs q 74 n f:=λq m=>by
      rcases N.oQ.a.h with⟨e1,_⟩|⟨g',yu,e1,qr,_,f',W,_⟩;·simp only[vsi]at e1;rw[e1.1]at m;cases m
      ·simp only[vsi]at e1;rw[e1.1]at m;simp at m;subst m;refine⟨W.lt,λe=>?_,qr,_,_,W⟩;subst e;obtain⟨zt,A,_⟩:=W;rw[N.oQ.p]at A;cases A
     have N6:=aE N5 L;have zr:Hid (w7.heap[P]?=some (ZJ b nm i false)):=bF (bJ yd.oQ L) zh (λe=>(R P e).2.1 rfl);have xq:Hid (w7.heap[B]?=some (jE d iw k)):=bF (bJ yl.oQ L) zh (λe=>by have:=(R B e).1;omega);have yr:Hid (w7.heap[w.heap.size+1]?=some (jE 0 0 0)):=bF (bJ yq.oQ L) zh (λe=>by have:=(R _ e).1;omega);have hPlt:P<w.heap.size:=(cE N.oQ.p);have P8:=aP zr.oQ 2 (.slice a' (ln b.hl+1) c');have b8:aU (λq=>q=P) w7 (w7.setCell (Y P 2) (.slice a' (ln b.hl+1) c')):=(aU.refl (λq=>q=P) w7).set (g:=P) rfl _ _;have B8:=bF xq.oQ b8 (λe=>by omega);have R8:=bF yr.oQ b8 (λe=>by omega);have q2:w7.cell? (Y P 2)=some (hs b):=aB zr.oQ rfl;have qf:=jS zr.oQ;clear p0 p1 p2 p3 p4 p5 y0 y1 y2 H;simp only[lds,ldz,aD,Act.put];rw[d0,zd];clear d0 zd;generalize j 1=u1,j 2=u2,j 3=u3,j 4=u4,j 5=u5,j 6=u6,j 7=u7,j 8=u8,j 9=u9,j 10=u10,j 11=u11;obtain⟨w8,qq⟩:=cI (w7.setCell (Y P 2) (.slice a' (ln b.hl+1) c'));rw[qq]at P8 b8 B8 R8;obtain⟨z0,z1,z2⟩:=aM B8;obtain⟨r0,r1,r2⟩:=aM R8;have rf:=jS R8;have xv:=aI P8
     have yo:Hid (∀w9,aU (λq=>q=w.heap.size+1) w8 w9->mP z P w9 ⟨b.now,b.fa,b.fl,b.fc,a',b.hl.take i++⟨nm,a,D,c,none,[],0⟩::b.hl.drop i,c'⟩ nm i false/\aU (λq=>z<=q) w w9):=λw9 xe=>by
      have zx:ln (b.hl.take i++(⟨nm,a,D,c,none,[],0⟩:Hx)::b.hl.drop i)=ln b.hl+1:=by simp;omega
      have qh:P≠w.heap.size+1:=om;have yz:aU (λq=>q=P∨q=w.heap.size+1) w7 w9:=(b8.wide (λq m=>.inl m)).trans (xe.wide (λq m=>.inr m));have yy:aU (λq=>b.ha.map Addr.block=some q∨q=P∨q=w.heap.size+1) w6 w9:=(zh.wide (λq m=>.inl m)).trans (yz.wide (λq m=>.inr m))
      have zf:aU (λq=>w.heap.size<=q∨b.ha.map Addr.block=some q∨q=P) w w9:=((aU.below N6).trans (yy.wide (λq m=>by
       rcases m with m|m|m;·exact .inr (.inl m)
       ·exact .inr (.inr m)
       ·exact .inl (by rw[m];omega))))
      have zz:∀q n f t,w.rowIs q t n f->t≠74->t≠198->¬(w.heap.size<=q∨b.ha.map Addr.block=some q∨q=P):=λq n f t F h1 h2 m=>by
       rcases m with m|m|m;·have:=F.lt;omega
       ·obtain⟨_,_,_,n',f',W⟩:=R q m;exact h1 (lB F W)
       ·subst m;obtain⟨zt,A,_⟩:=F;rw[N.oQ.p]at A;cases A;exact h2 rfl
      have xb:∀n f t,w7.rowIs P t n f->t≠198->False:=λn f t F h1=>by
       obtain⟨zt,A,_⟩:=F;rw[zr.oQ]at A;cases A;exact h1 rfl
      have xc:∀n f t,w7.rowIs (w.heap.size+1) t n f->t≠79->False:=λn f t F h1=>by
       obtain⟨zt,A,_⟩:=F;rw[yr.oQ]at A;cases A;exact h1 rfl
      have U:aN w9 w3.heap.size (.slice a (ln D) c) D:=by
       have h6:=zn.oQ.zL L;have ql:∀u,a=some u->w3.heap.size<=u.block:=λu e=>h6.blkGe (q:=u.block) (by rw[h6.adr,e];rfl)
       exact aN.but h6 yy (λu e T=>by
        have:=ql u e;rcases T with T|T|T;·have:=(R _ T).1;omega
        ·omega
        ·omega)
      refine⟨⟨?_,⟨N.oQ.a.f.butRow zf (λq n f _ F=>zz q n f _ F dz dz),?_,λy hy=>?_,?_,qk,N.oQ.a.cf⟩,N.oQ.zp⟩,zf.wide (λq m=>?_)⟩
      ·show w9.heap[P]?=some (.cells #[I b.now,fs b,.slice a' (ln (b.hl.take i++(⟨nm,a,D,c,none,[],0⟩:Hx)::b.hl.drop i)) c',.string nm,I (i:Int),.bool false] 198);rw[zx];exact bF xv.oQ xe qh
      ·show bW _ _ _ _ _ (.slice a' (ln (b.hl.take i++(⟨nm,a,D,c,none,[],0⟩:Hx)::b.hl.drop i)) c') _;rw[zx]
       exact xi.butRow yz (λq n f _ F m=>by
        rcases m with rfl|rfl;·exact xb _ _ _ F dz
        ·exact xc _ _ _ F dz)
      ·have xg:y∈b.hl∨y=⟨nm,a,D,c,none,[],0⟩:=by
        rcases lma.1 hy with h|h;·exact .inl (lmt h)
        ·rcases lmc.1 h with h|h;·exact .inr h
         ·exact .inl (lmd h)
       rcases xg with h|rfl
       ·exact(N.oQ.a.t y h).but zf (λq m=>by
         obtain⟨n,f,F⟩:=(N.oQ.a.t y h).bs_row q m;exact zz q n f _ F dz dz)
       ·exact⟨U.weak om,.inl ⟨rfl,rfl⟩⟩
      ·have C:=N.oQ.a.d;rw[←List.take_append_drop i b.hl,lfm]at C;have yi:=lnd.1 C
       have zy:∀q∈(⟨nm,a,D,c,none,[],0⟩:Hx).bs,w3.heap.size<=q:=λq m=>by
        cases ha2:a with
        |none=>simp[Hx.bs,ha2]at m
        |some u=>
         simp[Hx.bs,ha2]at m;subst m;exact U.blkGe (q:=u.block) (by rw[U.adr,ha2];rfl)
       have za:∀y∈b.hl,∀q∈y.bs,q<w.heap.size:=λy hy q m=>((N.oQ.a.t y hy).bs_in q m).2;rw[lfm,lfc,lnd,lnd];refine⟨yi.1,⟨by simp only[Hx.bs,Option.map_none,Option.toList_none,List.append_nil];exact iE _,yi.2.1,λq m r F e=>?_⟩,λq m r F e=>?_⟩
       ·subst e;obtain⟨y,hy,yj⟩:=List.mem_flatMap.1 F;have h1:=za y (lmd hy) q yj;have h2:=zy q m;omega
       ·subst e;obtain⟨y,hy,yj⟩:=List.mem_flatMap.1 m;have h1:=za y (lmt hy) q yj;rcases lma.1 F with F|F
        ·have h2:=zy q F;omega
        ·exact yi.2.2 q m q F rfl
      ·rcases m with m|m|m;·show z<=q;omega
       ·exact(R q m).2.2.1
       ·rw[m];exact N.oQ.zp
     clear B8 R8 P8 b8 L zh xi N6 R;gi_wp2_with fail;go_wp2_with fail;have HL:mO b nm i false x=b.hl.take i++HU nm x ⟨d,iw,k⟩::b.hl.drop i:=by unfold mO;rw[yc.oQ,ym.oQ];rfl
     have HV:iA b false x=gF d iw k:=by unfold iA;rw[yc.oQ,ym.oQ];rfl
     have zw:=yo.oQ _ (zm w8 (I d) (I iw) (I k))
     exact bpr (v:=.tuple #[gF d iw k,rB 0]) (by simp[results,results123,go_sem,r0,r1,r2];rfl) rfl ⟨⟨b.now,b.fa,b.fl,b.fc,a',b.hl.take i++⟨nm,a,D,c,none,[],0⟩::b.hl.drop i,c'⟩,by rw[yc.oQ,HV],rfl,rfl,by
      rw[HL];exact SS _ _ ⟨rfl,ys.oQ,rfl⟩,zw.1,zw.2⟩
variable {T:Nat}{w:Wd}{S:Nat → Prop}
theorem aU.low (h:aU (λq=>q=T∨w.heap.size<=q) w w'):aU (λq=>q=T) w w':=⟨h.os,h.tape,h.output,h.size,λk a b=>h.block k a (λe=>e.elim b (λe=>by omega))⟩
theorem l8.but (h:l8 w)(a:aU S w w')(b:¬S 3):l8 w':=a.cell (p:=(Y 3 0)) b h
def MW (k:Nat)(fr:Array Value)(T:Nat)(O:Bk->Nat->Bool->Obj)(b:Bk)(nm:ByteArray)(R:Bk->Nat->Bool->Bk->Int->Prop)(w:World):Prop:=
 ∀(b':Bk) (i:Nat) (f:Bool) (P z:Nat) (W:World),aO b=true->lY b nm b' i f->w.heap.size<=z->z<=W.heap.size->mP z P W b' nm i f->aG w W->
  aW k (#[E P 0]++fr) W λe W'=>∃b'' c,e=rt (rB c)/\R b' i f b'' c/\mP z P W' b'' nm i f/\aU (λq=>z<=q∨q=T) W W'/\W'.heap[T]?=some (O b' i f)
def XL (T:Nat)(O:Bk->Nat->Bool->Obj)(b:Bk)(nm:ByteArray)(R:Bk->Nat->Bool->Bk->Int->Prop)(w:World)(e:Ending)(w':World):Prop:=
 (aO b=false/\e=rt (.tuple #[Bk.val ⟨0,none,[],0,none,[],0⟩,I 1])/\w'.heap[T]?=w.heap[T]?)∨
 (aO b=true/\∃(b':Bk) (i:Nat) (f:Bool) (b'':Bk) (c:Int),lY b nm b' i f/\R b' i f b'' c/\e=rt (.tuple #[b''.val,I c])/\iI w.heap.size w' b''/\w'.heap[T]?=some (O b' i f))
theorem G4 (v0:Va)(b:Bk)(nm:Ba)(R:Bk->Nat->Bool->Bk->Int->Prop)(w:Wd)(T:Nat)(O:Bk->Nat->Bool->Obj)(zh:T≠3)(zj:T<w.heap.size)(hC:MW 122 #[v0,E T 0] T O b nm R w)(hL:l8 w)(hf:Xs 3 Fx.cells w b.fa b.fl)(W:ln b.fl<=1048576)(zl:ln b.fl<=b.fc)(U:b.fc<=9223372036854775807)(zr:∀f∈b.fl,f.n.size<=9223372036854775807)(hh:Xs 3 Hx.cells w b.ha b.hl)(zn:ln b.hl<=1048576)(hg:∀h∈b.hl,h.In w/\h.Fit):
 aW 121 #[b.val,.string nm,.func (.func 122) #[] #[v0,E T 0]] w λe w'=>XL T O b nm R w e w'/\aU (λq=>q=T) w w':=by
 have r:aG w ((w.alloc b.obj).alloc (zo)):=aC (aC (br _ _) _) _;have A0:=(halq (w.alloc b.obj) (zo) w.heap.size sm).trans (wnq w b.obj);have M:=wnq (w.alloc b.obj) (zo);rw[wsa]at M;go_enter func121,ntmps121;go_wp2_with fail;obtain⟨W0,S⟩:=cI ((w.alloc b.obj).alloc (zo));rw[S]at r A0 M ⊢;have hz1:w.heap.size+1<W0.heap.size:=(cE M);clear S;refine(qA b W0 (hf.zL r) W zl U zr (hh.zL r) zn (λh m=>⟨(hg h m).1.zL r,(hg h m).2⟩)).mono ?_;rintro e w1 ⟨rfl,u⟩;have D:=aE r u;have A1:=bJ A0 u;have R1:=bJ M u;have hs1:=u.size;clear A0 M u r;cases hbk:aO b with
 |false=>
  have y:Hid _:=hbk;have t:Hid _:=R1;clear A1 R1 hbk;go_wp2_with fail;refine(BK 1 w1 (hL.zL D)).mono ?_;rintro e s ⟨rfl,l⟩;have N2:=aE D l;have R2:=bJ t.oQ l;obtain⟨r0,r1,r2⟩:=aM R2;have rf:=jS R2;clear R2 t l;go_wp2_with fail;have P:=((N2.setCell (p:=(Y (w.heap.size+1) 0)) (by show w.heap.size<=w.heap.size+1;omega) (I 0)).setCell (p:=(Y (w.heap.size+1) 1)) (by show w.heap.size<=w.heap.size+1;omega) (ms)).setCell (p:=(Y (w.heap.size+1) 2)) (by show w.heap.size<=w.heap.size+1;omega) (ms);exact bpr (v:=.tuple #[Bk.val ⟨0,none,[],0,none,[],0⟩,I 1]) (by simp[results,results121,go_sem,r0,r1,r2]) rfl ⟨.inl ⟨y.oQ,rfl,P.block T zj⟩,aU.below P⟩
 |true=>
  have y:Hid _:=hbk;obtain⟨k0,k1,k2⟩:=aM A1
  have V:ln b.hl<=64:=by
   have:=hbk;simp only[aO,iD,bat,dte]at this;omega
  have B:kR Hx.n b.hl=true:=by
   have:=hbk;simp only[aO,dU,bX,bat]at this;exact this.2.2.2.1.2
  have t:Hid _:=R1;clear A1 R1 hbk;go_wp2_with fail;refine(DN b nm w1 (hf.zL D) W (hh.zL D) V (λh m=>⟨(hg h m).1.zL D,(hg h m).2⟩) B).mono ?_;rintro e s ⟨⟨b',i,f,rfl,X,hA⟩,l⟩;have z:aG s (s.alloc (ZJ b' nm i f)):=aC (br _ _) _;have P3:=wnq s (ZJ b' nm i f);have N3:=aE (aE D l) z;have C:Hid _:=bJ (bJ t.oQ l) z;have F:=hA.zL z;have zq:=l.size;obtain⟨w3,Z⟩:=cI (s.alloc (ZJ b' nm i f));rw[Z]at P3 N3 C F;have hs3:s.heap.size<w3.heap.size:=(cE P3);have HI:Hid (mP w1.heap.size s.heap.size w3 b' nm i f):=⟨P3,F,zq⟩;have K:Hid _:=X;clear k0 k1 k2 hA F P3 z l D t X B;go_wp2_with fail;clear Z;refine(hC b' i f s.heap.size w1.heap.size w3 y.oQ K.oQ om om HI.oQ N3).mono ?_;rintro e w4 ⟨d,c,rfl,hR,N,G,Q⟩;have N4:aU (λq=>q=T) w w4:=aU.low ((aU.below N3).trans (G.wide (λq x=>x.elim (λx=>.inr om) (λx=>.inl x))));have zc:Hid _:=Q;have zf:l8 w4:=hL.but N4 (λe=>zh e.symm);clear Q;have L:Hid _:=bF C.oQ G (λx=>by rcases x with x|x<;>omega);have J:Hid _:=N;have zb:Hid _:=hR;clear hC HI C N3 N G hR;go_wp2_with fail;refine pG 4 [some 21,some 22,some 23,some 24] (D5 s.heap.size d c) (λ_ _ _ _ h _=>h) ?step ?fin
  case step=>
   intro i o H w' zm zp A hd;match i,zm with
   |0,_|2,_=>
    cases zp;gi_wp2;exact⟨_,uhx,rfl,br _ _⟩
   |1,_=>
    cases zp;have d0:H 0=_:=Zq hd 0;have P5:=bJ J.oQ.p A;have k0:w'.cell? (ya s 0)=some (I d.now):=aB P5 rfl;have k1:w'.cell? (ya s 1)=some (fs d):=aB P5 rfl;have k2:w'.cell? (ya s 2)=some (hs d):=aB P5 rfl;clear P5;gi_wp2;exact⟨_,by simp[aH,d0],rfl,br _ _⟩
   |3,_=>
    cases zp;have d2:H 2=_:=Zq hd 2;simp only[aD,Act.put];rw[d2];gi_wp2_with fail;refine tqx ?_;refine(cw.2 (J9 c w' (zf.zL A))).mono ?_;rintro e w5 ⟨rfl,zk⟩;gi_wp2;exact⟨_,by simp[aH,d2],rfl,zk⟩
   |j+4,h=>omega
  case fin=>
   intro H w5 A hp;have d1:H 1=_:=hp 1 dz;have d3:H 3=_:=hp 3 dz;have N5:=N4.trans (aU.below A);have zd:Hid _:=bJ zc.oQ A;have R5:=bJ L.oQ A;have za:Hid _:=J.oQ.a.zL A;obtain⟨r0,r1,r2⟩:=aM R5;have rf:=jS R5;clear hp R5 L A N4;simp only[lds,ldz,aD,Act.put];rw[d1,d3];clear d1 d3;generalize H 0=v0,H 2=v2;gi_wp2_with fail;go_wp2_with fail;have hS:aU (λk=>k=w.heap.size+1) w5 (((w5.setCell (Y (w.heap.size+1) 0) (I d.now)).setCell (Y (w.heap.size+1) 1) (fs d)).setCell (Y (w.heap.size+1) 2) (hs d)):=(((aU.refl (λk=>k=w.heap.size+1) w5).set (g:=w.heap.size+1) rfl _ _).set (g:=w.heap.size+1) rfl _ _).set (g:=w.heap.size+1) rfl _ _;have ze:=(za.oQ.but hS (λk hk=>by rw[hk];omega)).weak (z':=w.heap.size) om;have zg:=aU.low ((N5.wide (S':=λq=>q=T∨w.heap.size<=q) (λq x=>.inl x)).trans (hS.wide (λk hk=>.inr (by rw[hk];omega))));have zi:=bF zd.oQ hS (λe=>by omega);exact bpr (v:=.tuple #[d.val,I c]) (by simp[results,results121,go_sem,r0,r1,r2]) rfl ⟨.inr ⟨y.oQ,b',i,f,d,c,K.oQ,zb.oQ,rfl,ze,zi⟩,zg⟩
def YK (b:Bk)(f:Bool)(x:Wx):Obj:=if jQ b f x=0 then(match tH b x with|[]=>jE 0 0 0|c::_=>jE c.d c.i c.k)else jE 0 0 0
theorem DF (b:Bk)(f:Bool)(x:Wx):∃d i k,iA b f x=gF d i k/\YK b f x=jE d i k:=by
 unfold iA YK;split
 ·cases tH b x with
  |nil=>exact⟨0,0,0,rfl,rfl⟩
  |cons c r=>exact⟨c.d,c.i,c.k,rfl,rfl⟩
 ·exact⟨0,0,0,rfl,rfl⟩
def TakR (nm:ByteArray)(x:Wx)(b':Bk)(i:Nat)(f:Bool)(b'':Bk)(c:Int):Prop:=c=jQ b' f x/\b''.now=b'.now/\b''.fl=b'.fl/\aT (mO b' nm i f x) b''.hl
theorem iI.asks (h:iI T w b)(c:ln b.fl<=1048576)(k:∀f∈b.fl,f.n.size<=9223372036854775807)(d:ln b.hl<=1048576)(a:∀h∈b.hl,h.Fit):iX w b:=
 ⟨h.ans.fs,c,by
  rcases h.f with⟨e,i⟩|⟨g,cap,e,_,j,_⟩;·rw[i];exact nz _
  ·simp only[vsi]at e;rw[e.2.2];exact j,by have:=h.cf;unfold maxLen at this;omega,k,h.ans.hs,d,λx hx=>⟨h.ans.inn x hx,a x hx⟩⟩
theorem EN (x:Wx)(X T:Nat)(b:Bk)(nm:Ba)(w:Wd)(hX:w.heap[X]?=some x.obj)(S:w.heap[T]?=some (jE 0 0 0))(hx:iL w x)(J:ln b.fl<=1048576)(za:∀f∈b.fl,f.n.size<=9223372036854775807)(G:∀h∈b.hl,h.Fit):
 MW 122 #[E X 0,E T 0] T (λb' _ f=>YK b' f x) b nm (TakR nm x) w:=by
 intro b' i f P z W r c hz K C D;have h16:=kD r;have N:=bJ hX D;obtain⟨q0,q1,q2,q3,q4,q5,q6,q7⟩:=gT N;have hTw:T<w.heap.size:=(cE S);have F:=bJ S D;have hA:=C.a.asks (by rw[c.fl];exact J) (by rw[c.fl];exact za) (by rw[c.lk.len];omega) (c.lk.fit G);have H:i<=ln b'.hl:=by rw[c.lk.len];exact c.at'.le
 have Z:Hid _:=C;obtain⟨d,L,k,V,U⟩:=DF b' f x;have HV:=aI V;have HO:=aI U;clear r C N V U;show aW 122 #[E P 0,E X 0,E T 0] W _;go_enter func122,ntmps122;go_wp2_with fail;refine(TE z P b' nm i f x W Z.oQ K hA (hx.zL D) (by rw[c.lk.len];omega) H).mono ?_;rintro e w1 ⟨j,rfl,O,Q,R,l,m⟩;rw[HV.oQ];have s:=bF F m (λe=>by omega);obtain⟨t0,t1,t2⟩:=aM s;have tf:=jS s;have M:=aP (aP (aP s 0 (I d)) 1 (I L)) 2 (I k);have t:=(((aU.refl (λq=>q=T) w1).set (g:=T) rfl 0 (I d)).set (g:=T) rfl 1 (I L)).set (g:=T) rfl 2 (I k);have o:mP z P (((w1.setCell (Y T 0) (I d)).setCell (Y T 1) (I L)).setCell (Y T 2) (I k)) j nm i f:=⟨bF l.p t (λe=>by have:=l.zp;omega),l.a.but t (λq u=>by omega),l.zp⟩;have y:Hid _:=o;have A:Hid (j.now=b'.now/\j.fl=b'.fl/\aT (mO b' nm i f x) j.hl):=⟨O,Q,R⟩;have v:Hid _:=(m.wide (S':=λq=>z<=q∨q=T) (λq u=>.inl u)).trans (t.wide (λq u=>.inr u));have B:Hid _:=M;clear s M t l o m O Q R;go_wp2_with fail;go_ret;exact⟨j,jQ b' f x,rfl,⟨rfl,A.oQ.1,A.oQ.2.1,A.oQ.2.2⟩,y.oQ,v.oQ,by rw[HO.oQ];exact B.oQ⟩
structure K3 (bv cv iv:Value)(W2 W3 W4:World)(L:Nat->Prop)(vs:Nat->Value)(w':World):Prop where
 v0:L 0->vs 0=bv
 v1:L 1->vs 1=cv
 v2:L 2->vs 2=iv
 v5:L 5->vs 5=iv
 w4:L 4->w'=W4
 w3:L 3->¬L 4->w'=W3
 w0:¬L 3->w'=W2
theorem K3.ext {bv cv iv:Va}{W2 W3 W4:Wd}(L a:Nat->Prop)(vs:Nat->Va)(w':Wd)(h:∀j,L j↔a j)(k:K3 bv cv iv W2 W3 W4 L vs w'):K3 bv cv iv W2 W3 W4 a vs w':=
 ⟨λq=>k.v0 ((h 0).2 q),λq=>k.v1 ((h 1).2 q),λq=>k.v2 ((h 2).2 q),λq=>k.v5 ((h 5).2 q),λq=>k.w4 ((h 4).2 q),λq r=>k.w3 ((h 3).2 q) (λs=>r ((h 4).1 s)),λq=>k.w0 (λs=>q ((h 3).1 s))⟩
theorem K3.cases {bv cv iv:Va}{W2 W3 W4:Wd}{L:Nat->Prop}{vs:Nat->Va}{w':Wd}(k:K3 bv cv iv W2 W3 W4 L vs w'):w'=W2∨w'=W3∨w'=W4:=by
 by_cases a:L 3
 ·by_cases b:L 4;·exact .inr (.inr (k.w4 b))
  ·exact .inr (.inl (k.w3 a b))
 ·exact .inl (k.w0 a)
section
variable {bv cv iv:Va}{W2 W3 W4:Wd}{L:Nat->Prop}{vs:Nat->Va}{w':Wd}{v:Va}
theorem K3.add0 (k:K3 bv cv iv W2 W3 W4 L vs w')(a:v=bv):K3 bv cv iv W2 W3 W4 (λj=>L j∨j=0) (aH vs 0 v) w':=
 ⟨λ_=>a,λh=>k.v1 (iT h),λh=>k.v2 (iT h),λh=>k.v5 (iT h),λh=>k.w4 (iT h),λh r=>k.w3 (iT h) (λs=>r (.inl s)),λh=>k.w0 (λs=>h (.inl s))⟩
theorem K3.add1 (k:K3 bv cv iv W2 W3 W4 L vs w')(a:v=cv):K3 bv cv iv W2 W3 W4 (λj=>L j∨j=1) (aH vs 1 v) w':=
 ⟨λh=>k.v0 (iT h),λ_=>a,λh=>k.v2 (iT h),λh=>k.v5 (iT h),λh=>k.w4 (iT h),λh r=>k.w3 (iT h) (λs=>r (.inl s)),λh=>k.w0 (λs=>h (.inl s))⟩
theorem K3.add2 (k:K3 bv cv iv W2 W3 W4 L vs w')(a:v=iv):K3 bv cv iv W2 W3 W4 (λj=>L j∨j=2) (aH vs 2 v) w':=
 ⟨λh=>k.v0 (iT h),λh=>k.v1 (iT h),λ_=>a,λh=>k.v5 (iT h),λh=>k.w4 (iT h),λh r=>k.w3 (iT h) (λs=>r (.inl s)),λh=>k.w0 (λs=>h (.inl s))⟩
theorem K3.add3 (k:K3 bv cv iv W2 W3 W4 L vs w')(a:¬L 4):K3 bv cv iv W2 W3 W4 (λj=>L j∨j=3) (aH vs 3 v) W3:=
 ⟨λh=>k.v0 (iT h),λh=>k.v1 (iT h),λh=>k.v2 (iT h),λh=>k.v5 (iT h),λh=>absurd (iT h) a,λ_ _=>rfl,λh=>absurd (.inr rfl) h⟩
theorem K3.add4 (k:K3 bv cv iv W2 W3 W4 L vs w')(a:L 3):K3 bv cv iv W2 W3 W4 (λj=>L j∨j=4) (aH vs 4 v) W4:=
 ⟨λh=>k.v0 (iT h),λh=>k.v1 (iT h),λh=>k.v2 (iT h),λh=>k.v5 (iT h),λ_=>rfl,λ_ h=>absurd (.inr rfl) h,λh=>absurd (.inl a) h⟩
theorem K3.add5 (k:K3 bv cv iv W2 W3 W4 L vs w')(a:v=iv):K3 bv cv iv W2 W3 W4 (λj=>L j∨j=5) (aH vs 5 v) w':=
 ⟨λh=>k.v0 (iT h),λh=>k.v1 (iT h),λh=>k.v2 (iT h),λ_=>a,λh=>k.w4 (iT h),λh r=>k.w3 (iT h) (λs=>r (.inl s)),λh=>k.w0 (λs=>h (.inl s))⟩
end
def ToldT (b:Bk)(x:Wx)(z:Nat)(e:Ending)(w':World):Prop:=
 (aO b=false/\e=rt (.tuple #[Bk.val ⟨0,none,[],0,none,[],0⟩,gF 0 0 0,I 1]))∨
 (aO b=true/\∃(b':Bk) (i:Nat) (f:Bool) (b'':Bk) (c:Int),lY b x.n b' i f/\TakR x.n x b' i f b'' c/\e=rt (.tuple #[b''.val,iA b' f x,I c])/\iI z w' b'')
theorem IM (b:Bk)(x:Wx)(w:World)(hw0:3<w.heap.size)(hL:l8 w)(hf:Xs 3 Fx.cells w b.fa b.fl)(yb:b.fl.length<=1048576)(yh:b.fl.length<=b.fc)(zz:b.fc<=9223372036854775807)(yd:∀f∈b.fl,f.n.size<=9223372036854775807)(hh:Xs 3 Hx.cells w b.ha b.hl)(yi:b.hl.length<=1048576)(hg:∀h∈b.hl,h.In w/\h.Fit)(hx:iL w x):
 aW 77 #[b.val,x.val] w λe w'=>ToldT b x w.heap.size e w'/\aG w w':=by
 have N1:aG w (w.alloc b.obj):=aC (br _ _) _;have A1:=wnq w b.obj;obtain⟨U1,zh⟩:∃U,w.alloc b.obj=U:=⟨_,rfl⟩;have z1:U1.heap.size=w.heap.size+1:=by rw[←zh];simp
 rw[zh]at N1 A1;have M2:aG U1 (U1.alloc x.obj):=aC (br _ _) _;have X2:=wnq U1 x.obj;obtain⟨U2,zi⟩:∃U,U1.alloc x.obj=U:=⟨_,rfl⟩;have z2:U2.heap.size=w.heap.size+2:=by rw[←zi];simp[z1]
 rw[zi]at M2 X2;have M3:aG U2 (U2.alloc (zo)):=aC (br _ _) _;have R3:=wnq U2 (zo);obtain⟨U3,zj⟩:∃U,U2.alloc (zo)=U:=⟨_,rfl⟩;have z3:U3.heap.size=w.heap.size+3:=by rw[←zj];simp[z2]
 rw[zj]at M3 R3;have M4:aG U3 (U3.alloc (jE 0 0 0)):=aC (br _ _) _;have Q4:=wnq U3 (jE 0 0 0);obtain⟨U4,zk⟩:∃U,U3.alloc (jE 0 0 0)=U:=⟨_,rfl⟩;have z4:U4.heap.size=w.heap.size+4:=by rw[←zk];simp[z3]
 rw[zk]at M4 Q4;have M5:aG U4 (U4.alloc (jE 0 0 0)):=aC (br _ _) _;have T5:=wnq U4 (jE 0 0 0);obtain⟨U5,zl⟩:∃U,U4.alloc (jE 0 0 0)=U:=⟨_,rfl⟩;have z5:U5.heap.size=w.heap.size+5:=by rw[←zl];simp[z4]
 rw[zl]at M5 T5;have N5:aG w U5:=aE (aE (aE (aE N1 M2) M3) M4) M5;have A5:=bJ (bJ (bJ (bJ A1 M2) M3) M4) M5;have X5:=bJ (bJ (bJ X2 M3) M4) M5;have R5:=bJ (bJ R3 M4) M5;have Q5:=bJ Q4 M5;rw[z1]at X5;rw[z2]at R5;rw[z3]at Q5;rw[z4]at T5;obtain⟨k0,k1,k2⟩:=aM A5;obtain⟨q0,q1,q2,q3,q4,q5,q6,q7⟩:=gT X5;have zw:Hid _:=R5;have zu:Hid _:=Q5;have zy:Hid _:=X5;have zx:Hid _:=T5;clear N1 M2 M3 M4 M5 A1 X2 R3 Q4 A5 X5 R5 Q5 T5;go_enter Tryz.func77,Tryz.ntmps77;go_wp2_with fail;clear zh zi zj zk zl;refine(G4 (E (w.heap.size+1) 0) b x.n (TakR x.n x) U5 (w.heap.size+4) (λb' _ f=>YK b' f x) om om (EN x (w.heap.size+1) (w.heap.size+4) b x.n U5 zy.oQ zx.oQ (hx.zL N5) yb yd (λh m=>(hg h m).2)) (hL.zL N5) (hf.zL N5) yb yh zz yd (hh.zL N5) yi (λh m=>⟨(hg h m).1.zL N5,(hg h m).2⟩)).mono ?_;rintro e w1 ⟨hC,R⟩;have hs1:=R.size;have zv:Hid _:=bF zw.oQ R (by show¬(w.heap.size+2=w.heap.size+4);omega);have zt:Hid _:=bF zu.oQ R (by show¬(w.heap.size+3=w.heap.size+4);omega);have zs:Hid (aU (λq=>w.heap.size<=q) w w1):=(aU.below N5).trans (R.wide (λq l=>by have hq':q=w.heap.size+4:=l;show w.heap.size<=q;omega));clear k0 k1 k2 q0 q1 q2 q3 q4 q5 q6 q7 zw zu zy;rcases hC with⟨zd,rfl,zb⟩|⟨zd,b',i,f,a,c,yc,hR,rfl,hA,zb⟩
 ·have zf:Hid _:=zd;have T1:=zb.trans zx.oQ;obtain⟨j,zp⟩:=bQ (⟨0,none,[],0,none,[],0⟩:Bk);have yf:=aI zp;rw[←zp];clear zd zb R zp;have s:aG w1 (w1.alloc j.obj):=aC (br _ _) _;have W:=wnq w1 j.obj;have J:=bJ zv.oQ s;have Q:=bJ zt.oQ s;have Z:=bJ T1 s;have T:=aI (zs.oQ.trans (aU.below s));obtain⟨W2,zc⟩:=cI (w1.alloc j.obj);rw[zc]at s W J Q Z T;have l0:W2.drew.cell? (Y w1.heap.size 0)=some (I j.now):=aB (w:=W2.drew) W rfl;have l1:W2.drew.cell? (Y w1.heap.size 1)=some (.slice j.fa j.fl.length j.fc):=aB (w:=W2.drew) W rfl;have l2:W2.drew.cell? (Y w1.heap.size 2)=some (.slice j.ha j.hl.length j.hc):=aB (w:=W2.drew) W rfl;have t0:W2.drew.cell? (Y (w.heap.size+4) 0)=some (I 0):=aB (w:=W2.drew) Z rfl;have t1:W2.drew.cell? (Y (w.heap.size+4) 1)=some (I 0):=aB (w:=W2.drew) Z rfl;have t2:W2.drew.cell? (Y (w.heap.size+4) 2)=some (I 0):=aB (w:=W2.drew) Z rfl;have q0:W2.drew.cell? (Y (w.heap.size+3) 0)=some (I 0):=aB (w:=W2.drew) Q rfl;have q1:W2.drew.cell? (Y (w.heap.size+3) 1)=some (I 0):=aB (w:=W2.drew) Q rfl;have q2:W2.drew.cell? (Y (w.heap.size+3) 2)=some (I 0):=aB (w:=W2.drew) Q rfl;have r0:W2.drew.cell? (Y (w.heap.size+2) 0)=some (I 0):=aB (w:=W2.drew) J rfl;have r1:W2.drew.cell? (Y (w.heap.size+2) 1)=some (ms):=aB (w:=W2.drew) J rfl;have r2:W2.drew.cell? (Y (w.heap.size+2) 2)=some (ms):=aB (w:=W2.drew) J rfl;have rf:∀i,W2.drew.frozen? (Y (w.heap.size+2) i)=false:=λi=>by have:W2.drew.heap[w.heap.size+2]?=_:=J;simp[World.frozen?,this]
  have V:Hid (W2.drew.heap[w.heap.size+2]?=some (zo)):=J;have G:Hid (W2.drew.heap[w.heap.size+3]?=some (jE 0 0 0)):=Q;clear W J Q Z T1 s;obtain⟨M,t⟩:=cI W2.drew;rw[t]at l0 l1 l2 t0 t1 t2 q0 q1 q2 r0 r1 r2 V G;rw[t]at rf;have P:=aI t;clear t;go_wp2_with fail;clear zc;have t:=P.oQ;have A:aU (λq=>q=w.heap.size+2) M (((M.setCell (Y (w.heap.size+2) 0) (I j.now)).setCell (Y (w.heap.size+2) 1) (.slice j.fa j.fl.length j.fc)).setCell (Y (w.heap.size+2) 2) (.slice j.ha j.hl.length j.hc)):=(((aU.refl (λq=>q=w.heap.size+2) M).set (g:=w.heap.size+2) rfl _ _).set (g:=w.heap.size+2) rfl _ _).set (g:=w.heap.size+2) rfl _ _;have K:=aP (aP (aP V.oQ 0 (I j.now)) 1 (.slice j.fa j.fl.length j.fc)) 2 (.slice j.ha j.hl.length j.hc);obtain⟨W3,zm⟩:=cI (((M.setCell (Y (w.heap.size+2) 0) (I j.now)).setCell (Y (w.heap.size+2) 1) (.slice j.fa j.fl.length j.fc)).setCell (Y (w.heap.size+2) 2) (.slice j.ha j.hl.length j.hc));rw[zm]at A K;have Q3:=bF G.oQ A (by show¬(w.heap.size+3=w.heap.size+2);omega);have H:=aP (aP (aP Q3 0 (I 0)) 1 (I 0)) 2 (I 0);have b4:aU (λq=>q=w.heap.size+3) W3 (((W3.setCell (Y (w.heap.size+3) 0) (I 0)).setCell (Y (w.heap.size+3) 1) (I 0)).setCell (Y (w.heap.size+3) 2) (I 0)):=(((aU.refl (λq=>q=w.heap.size+3) W3).set (g:=w.heap.size+3) rfl _ _).set (g:=w.heap.size+3) rfl _ _).set (g:=w.heap.size+3) rfl _ _;have o0:=A.cell (p:=(Y (w.heap.size+3) 0)) (by show¬(w.heap.size+3=w.heap.size+2);omega) q0;have o1:=A.cell (p:=(Y (w.heap.size+3) 1)) (by show¬(w.heap.size+3=w.heap.size+2);omega) q1;have o2:=A.cell (p:=(Y (w.heap.size+3) 2)) (by show¬(w.heap.size+3=w.heap.size+2);omega) q2;have oF:∀i,W3.frozen? (Y (w.heap.size+3) i)=false:=λi=>by simp[World.frozen?,bF G.oQ A (by show¬(w.heap.size+3=w.heap.size+2);omega)]
  obtain⟨W4,zn⟩:=cI (((W3.setCell (Y (w.heap.size+3) 0) (I 0)).setCell (Y (w.heap.size+3) 1) (I 0)).setCell (Y (w.heap.size+3) 2) (I 0));rw[zn]at b4 H;have X:=bF K b4 (by show¬(w.heap.size+2=w.heap.size+3);omega);obtain⟨e0,e1,e2⟩:=aM X;obtain⟨f0,f1,f2⟩:=aM H;have ze:Hid _:=(A.wide (S':=λq=>q=w.heap.size+2∨q=w.heap.size+3) (λq l=>.inl l)).trans (b4.wide (λq l=>.inr l));clear K Q3 H X
  have D:∀w',(w'=M∨w'=W3∨w'=W4)->aU (λq=>q=w.heap.size+2∨q=w.heap.size+3) M w':=λw' h=>by
   rcases h with rfl|rfl|rfl;·exact aU.refl _ _
   ·exact A.wide (λq l=>.inl l)
   ·exact(A.wide (λq l=>.inl l)).trans (b4.wide (λq l=>.inr l))
  have S:Hid _:=D;clear D;refine wpIn_wide.1 (fA (F:=Fence.wide) (n:=0) kr [some 18,some 19,some 20,none,none,some 6] (K3 j.val (gF 0 0 0) (I 1) M W3 W4) kr ?h0 K3.ext ?step ?fin);case h0=>exact⟨λh=>h.elim,λh=>h.elim,λh=>h.elim,λh=>h.elim,λh=>h.elim,λh=>h.elim,λ_=>t⟩
  case step=>
   intro L ii o vs w' C O B zq N;have hi:ii<6:=(lgs.1 C).1;have z:=N.cases;have r:=S.oQ w' z;have m0:=r.cell (p:=(Y w1.heap.size 0)) (by show¬(w1.heap.size=w.heap.size+2∨w1.heap.size=w.heap.size+3);omega) l0;have m1:=r.cell (p:=(Y w1.heap.size 1)) (by show¬(w1.heap.size=w.heap.size+2∨w1.heap.size=w.heap.size+3);omega) l1;have m2:=r.cell (p:=(Y w1.heap.size 2)) (by show¬(w1.heap.size=w.heap.size+2∨w1.heap.size=w.heap.size+3);omega) l2;have n0:=r.cell (p:=(Y (w.heap.size+4) 0)) (by show¬(w.heap.size+4=w.heap.size+2∨w.heap.size+4=w.heap.size+3);omega) t0;have n1:=r.cell (p:=(Y (w.heap.size+4) 1)) (by show¬(w.heap.size+4=w.heap.size+2∨w.heap.size+4=w.heap.size+3);omega) t1;have n2:=r.cell (p:=(Y (w.heap.size+4) 2)) (by show¬(w.heap.size+4=w.heap.size+2∨w.heap.size+4=w.heap.size+3);omega) t2;have y:=aI N;clear r z N;match ii,hi with
   |0,_=>
    cases C;gi_wp2;exact⟨j.val,uhx,y.oQ.add0 rfl⟩
   |1,_=>
    cases C;gi_wp2;exact⟨(gF 0 0 0),uhx,y.oQ.add1 rfl⟩
   |2,_=>
    cases C;gi_wp2;exact⟨I 1,uhx,y.oQ.add2 rfl⟩
   |3,_=>
    cases C;have d0:=y.oQ.v0 (Zq B 0);have u:=y.oQ.w0 O;have zr:¬L 4:=λh4=>O (zq 4 _ h4 rfl { on:=3,ground:=Ground.chain} sm rfl);rw[u]at m0 m1 m2 n0 n1 n2 ⊢;simp only[aD,Act.put];rw[d0];gi_wp2_with fail;exact⟨undef,by simp[aH,d0],y.oQ.add3 zr⟩
   |4,_=>
    cases C;have d1:=y.oQ.v1 (Zq B 1);have h3:L 3:=B { on:=3,ground:=Ground.chain} sm rfl;have u:=y.oQ.w3 h3 O;rw[u]at m0 m1 m2 n0 n1 n2 ⊢;simp only[aD,Act.put];rw[d1];gi_wp2_with fail;exact⟨undef,by simp[aH,d1],y.oQ.add4 h3⟩
   |5,_=>
    cases C;have d2:=y.oQ.v2 (Zq B 2);simp only[aD,Act.put];rw[d2];gi_wp2;exact⟨I 1,by simp[aH,d2],y.oQ.add5 rfl⟩
   |q+6,h=>omega
  case fin=>
   intro L vs w' za N;have u:=N.w4 (za 4 dz);have d5:=N.v5 (za 5 dz);rw[u];clear u N;simp only[aD,Act.put];rw[d5];generalize vs 0=u0,vs 1=u1,vs 2=u2
   have zg:aG w W4:=by
    have h:=T.oQ.trans (((by have h:=ze.oQ;rw[←P.oQ]at h;exact⟨h.os,h.tape,h.output,h.size,h.block⟩):aU (λq=>q=w.heap.size+2∨q=w.heap.size+3) W2 W4).wide (S':=λq=>w.heap.size<=q) (λq l=>by rcases l with l|l<;>omega));exact⟨h.os,h.tape,h.output,h.size,λk hk=>h.block k hk (λe=>by have e':w.heap.size<=k:=e;omega)⟩
   go_wp2_with fail;exact bpr (v:=.tuple #[j.val,gF 0 0 0,I 1]) (by simp[results,Tryz.results77,go_sem,e0,e1,e2,f0,f1,f2]) rfl ⟨.inl ⟨zf.oQ,by rw[yf.oQ]⟩,zg⟩
 ·have zf:Hid _:=zd;have HP:Hid _:=yc;have HR:Hid _:=hR;have HA:Hid _:=hA;obtain⟨d,iw,k,hv,C⟩:=DF b' f x;have HV:=aI hv;have T1:w1.heap[w.heap.size+4]?=some (jE d iw k):=by rw[zb];show some (YK b' f x)=_;rw[C]
  clear zd yc hR hA hv C zb R;have s:aG w1 (w1.alloc a.obj):=aC (br _ _) _;have W:=wnq w1 a.obj;have J:=bJ zv.oQ s;have Q:=bJ zt.oQ s;have Z:=bJ T1 s;have T:=aI (zs.oQ.trans (aU.below s));obtain⟨W2,zc⟩:=cI (w1.alloc a.obj);rw[zc]at s W J Q Z T;have l0:W2.drew.cell? (Y w1.heap.size 0)=some (I a.now):=aB (w:=W2.drew) W rfl;have l1:W2.drew.cell? (Y w1.heap.size 1)=some (.slice a.fa a.fl.length a.fc):=aB (w:=W2.drew) W rfl;have l2:W2.drew.cell? (Y w1.heap.size 2)=some (.slice a.ha a.hl.length a.hc):=aB (w:=W2.drew) W rfl;have t0:W2.drew.cell? (Y (w.heap.size+4) 0)=some (I d):=aB (w:=W2.drew) Z rfl;have t1:W2.drew.cell? (Y (w.heap.size+4) 1)=some (I iw):=aB (w:=W2.drew) Z rfl;have t2:W2.drew.cell? (Y (w.heap.size+4) 2)=some (I k):=aB (w:=W2.drew) Z rfl;have q0:W2.drew.cell? (Y (w.heap.size+3) 0)=some (I 0):=aB (w:=W2.drew) Q rfl;have q1:W2.drew.cell? (Y (w.heap.size+3) 1)=some (I 0):=aB (w:=W2.drew) Q rfl;have q2:W2.drew.cell? (Y (w.heap.size+3) 2)=some (I 0):=aB (w:=W2.drew) Q rfl;have r0:W2.drew.cell? (Y (w.heap.size+2) 0)=some (I 0):=aB (w:=W2.drew) J rfl;have r1:W2.drew.cell? (Y (w.heap.size+2) 1)=some (ms):=aB (w:=W2.drew) J rfl;have r2:W2.drew.cell? (Y (w.heap.size+2) 2)=some (ms):=aB (w:=W2.drew) J rfl;have rf:∀i,W2.drew.frozen? (Y (w.heap.size+2) i)=false:=λi=>by have:W2.drew.heap[w.heap.size+2]?=_:=J;simp[World.frozen?,this]
  have V:Hid (W2.drew.heap[w.heap.size+2]?=some (zo)):=J;have G:Hid (W2.drew.heap[w.heap.size+3]?=some (jE 0 0 0)):=Q;have ye:=aI s;clear W J Q Z T1 s;obtain⟨M,t⟩:=cI W2.drew;rw[t]at l0 l1 l2 t0 t1 t2 q0 q1 q2 r0 r1 r2 V G;rw[t]at rf;have P:=aI t;clear t;go_wp2_with fail;clear zc;have t:=P.oQ;have A:aU (λq=>q=w.heap.size+2) M (((M.setCell (Y (w.heap.size+2) 0) (I a.now)).setCell (Y (w.heap.size+2) 1) (.slice a.fa a.fl.length a.fc)).setCell (Y (w.heap.size+2) 2) (.slice a.ha a.hl.length a.hc)):=(((aU.refl (λq=>q=w.heap.size+2) M).set (g:=w.heap.size+2) rfl _ _).set (g:=w.heap.size+2) rfl _ _).set (g:=w.heap.size+2) rfl _ _;have K:=aP (aP (aP V.oQ 0 (I a.now)) 1 (.slice a.fa a.fl.length a.fc)) 2 (.slice a.ha a.hl.length a.hc);obtain⟨W3,zm⟩:=cI (((M.setCell (Y (w.heap.size+2) 0) (I a.now)).setCell (Y (w.heap.size+2) 1) (.slice a.fa a.fl.length a.fc)).setCell (Y (w.heap.size+2) 2) (.slice a.ha a.hl.length a.hc));rw[zm]at A K;have Q3:=bF G.oQ A (by show¬(w.heap.size+3=w.heap.size+2);omega);have H:=aP (aP (aP Q3 0 (I d)) 1 (I iw)) 2 (I k);have b4:aU (λq=>q=w.heap.size+3) W3 (((W3.setCell (Y (w.heap.size+3) 0) (I d)).setCell (Y (w.heap.size+3) 1) (I iw)).setCell (Y (w.heap.size+3) 2) (I k)):=(((aU.refl (λq=>q=w.heap.size+3) W3).set (g:=w.heap.size+3) rfl _ _).set (g:=w.heap.size+3) rfl _ _).set (g:=w.heap.size+3) rfl _ _;have o0:=A.cell (p:=(Y (w.heap.size+3) 0)) (by show¬(w.heap.size+3=w.heap.size+2);omega) q0;have o1:=A.cell (p:=(Y (w.heap.size+3) 1)) (by show¬(w.heap.size+3=w.heap.size+2);omega) q1;have o2:=A.cell (p:=(Y (w.heap.size+3) 2)) (by show¬(w.heap.size+3=w.heap.size+2);omega) q2;have oF:∀i,W3.frozen? (Y (w.heap.size+3) i)=false:=λi=>by simp[World.frozen?,bF G.oQ A (by show¬(w.heap.size+3=w.heap.size+2);omega)]
  obtain⟨W4,zn⟩:=cI (((W3.setCell (Y (w.heap.size+3) 0) (I d)).setCell (Y (w.heap.size+3) 1) (I iw)).setCell (Y (w.heap.size+3) 2) (I k));rw[zn]at b4 H;have X:=bF K b4 (by show¬(w.heap.size+2=w.heap.size+3);omega);obtain⟨e0,e1,e2⟩:=aM X;obtain⟨f0,f1,f2⟩:=aM H;have ze:Hid _:=(A.wide (S':=λq=>q=w.heap.size+2∨q=w.heap.size+3) (λq l=>.inl l)).trans (b4.wide (λq l=>.inr l));clear K Q3 H X
  have D:∀w',(w'=M∨w'=W3∨w'=W4)->aU (λq=>q=w.heap.size+2∨q=w.heap.size+3) M w':=λw' h=>by
   rcases h with rfl|rfl|rfl;·exact aU.refl _ _
   ·exact A.wide (λq l=>.inl l)
   ·exact(A.wide (λq l=>.inl l)).trans (b4.wide (λq l=>.inr l))
  have S:Hid _:=D;clear D;refine wpIn_wide.1 (fA (F:=Fence.wide) (n:=0) kr [some 18,some 19,some 20,none,none,some 6] (K3 a.val (gF d iw k) (I c) M W3 W4) kr ?h0 K3.ext ?step ?fin);case h0=>exact⟨λh=>h.elim,λh=>h.elim,λh=>h.elim,λh=>h.elim,λh=>h.elim,λh=>h.elim,λ_=>t⟩
  case step=>
   intro L ii o vs w' C O B zq N;have hi:ii<6:=(lgs.1 C).1;have z:=N.cases;have r:=S.oQ w' z;have m0:=r.cell (p:=(Y w1.heap.size 0)) (by show¬(w1.heap.size=w.heap.size+2∨w1.heap.size=w.heap.size+3);omega) l0;have m1:=r.cell (p:=(Y w1.heap.size 1)) (by show¬(w1.heap.size=w.heap.size+2∨w1.heap.size=w.heap.size+3);omega) l1;have m2:=r.cell (p:=(Y w1.heap.size 2)) (by show¬(w1.heap.size=w.heap.size+2∨w1.heap.size=w.heap.size+3);omega) l2;have n0:=r.cell (p:=(Y (w.heap.size+4) 0)) (by show¬(w.heap.size+4=w.heap.size+2∨w.heap.size+4=w.heap.size+3);omega) t0;have n1:=r.cell (p:=(Y (w.heap.size+4) 1)) (by show¬(w.heap.size+4=w.heap.size+2∨w.heap.size+4=w.heap.size+3);omega) t1;have n2:=r.cell (p:=(Y (w.heap.size+4) 2)) (by show¬(w.heap.size+4=w.heap.size+2∨w.heap.size+4=w.heap.size+3);omega) t2;have y:=aI N;clear r z N;match ii,hi with
   |0,_=>
    cases C;gi_wp2;exact⟨a.val,uhx,y.oQ.add0 rfl⟩
   |1,_=>
    cases C;gi_wp2;exact⟨(gF d iw k),uhx,y.oQ.add1 rfl⟩
   |2,_=>
    cases C;gi_wp2;exact⟨I c,uhx,y.oQ.add2 rfl⟩
   |3,_=>
    cases C;have d0:=y.oQ.v0 (Zq B 0);have u:=y.oQ.w0 O;have zr:¬L 4:=λh4=>O (zq 4 _ h4 rfl { on:=3,ground:=Ground.chain} sm rfl);rw[u]at m0 m1 m2 n0 n1 n2 ⊢;simp only[aD,Act.put];rw[d0];gi_wp2_with fail;exact⟨undef,by simp[aH,d0],y.oQ.add3 zr⟩
   |4,_=>
    cases C;have d1:=y.oQ.v1 (Zq B 1);have h3:L 3:=B { on:=3,ground:=Ground.chain} sm rfl;have u:=y.oQ.w3 h3 O;rw[u]at m0 m1 m2 n0 n1 n2 ⊢;simp only[aD,Act.put];rw[d1];gi_wp2_with fail;exact⟨undef,by simp[aH,d1],y.oQ.add4 h3⟩
   |5,_=>
    cases C;have d2:=y.oQ.v2 (Zq B 2);simp only[aD,Act.put];rw[d2];gi_wp2;exact⟨I c,by simp[aH,d2],y.oQ.add5 rfl⟩
   |q+6,h=>omega
  case fin=>
   intro L vs w' za N;have u:=N.w4 (za 4 dz);have d5:=N.v5 (za 5 dz);rw[u];clear u N;simp only[aD,Act.put];rw[d5];generalize vs 0=u0,vs 1=u1,vs 2=u2
   have zg:aG w W4:=by
    have h:=T.oQ.trans (((by have h:=ze.oQ;rw[←P.oQ]at h;exact⟨h.os,h.tape,h.output,h.size,h.block⟩):aU (λq=>q=w.heap.size+2∨q=w.heap.size+3) W2 W4).wide (S':=λq=>w.heap.size<=q) (λq l=>by rcases l with l|l<;>omega));exact⟨h.os,h.tape,h.output,h.size,λk hk=>h.block k hk (λe=>by have e':w.heap.size<=k:=e;omega)⟩
   have yg:iI w.heap.size W4 a:=((HA.oQ.zL (w':=W2) ye.oQ).but ((by have h:=ze.oQ;rw[←P.oQ]at h;exact⟨h.os,h.tape,h.output,h.size,h.block⟩):aU (λq=>q=w.heap.size+2∨q=w.heap.size+3) W2 W4) (λq l=>by rcases l with l|l<;>omega)).weak om;go_wp2_with fail;exact bpr (v:=.tuple #[a.val,gF d iw k,I c]) (by simp[results,Tryz.results77,go_sem,e0,e1,e2,f0,f1,f2]) rfl ⟨.inr ⟨zf.oQ,b',i,f,a,c,HP.oQ,HR.oQ,by rw[HV.oQ],yg⟩,zg⟩
variable {l m:List Hx}{u v:Hx}{k C:Nat}{y:Bk}{g c:Int}
def Hx.key (h:Hx):ByteArray×List Bx×List Bx:=(h.n,h.tl,h.nl)
theorem vM (h:l.map Hx.key=m.map Hx.key):aT l m:=by
 have c:ln m=ln l:=by have:=congrArg List.length h;simpa using this.symm
 refine⟨c,λk b=>?_⟩;have a:(l.map Hx.key)[k]?=(m.map Hx.key)[k]?:=by rw[h]
 rw[List.getElem?_map,List.getElem?_map,lge b,lge (by omega:k<ln m)]at a;simp only[Option.map_some,Option.some.injEq,Hx.key,Prod.mk.injEq]at a;exact⟨a.1,a.2.1,a.2.2⟩
theorem uT (l:List Hx)(nm:Ba):mW l nm=ln ((l.map Hx.key).takeWhile (λk=>gE k.1 nm)):=by
 unfold mW;rw[List.takeWhile_map,List.length_map];rfl
theorem GC (h:aT l m)(g:u.Like v):aT (nY l u) (nY m v):=by
 have c:l.map Hx.key=m.map Hx.key:=h.map Hx.key (λa b e=>by simp[Hx.key,e.n,e.t,e.x]);have d:mW l u.n=mW m v.n:=by rw[uT,uT,c,g.n]
 refine vM ?_;unfold nY;rw[d,lmp,lmp,List.map_cons,List.map_cons,List.map_take,List.map_take,List.map_drop,List.map_drop,c];simp[Hx.key,g.n,g.t,g.x]
theorem aAK (l:List Hx)(nm:Ba):mW l nm<=ln l:=(List.takeWhile_sublist _).length_le
theorem XG (l:List Hx)(u:Hx):ln (nY l u)=ln l+1:=by
 have:=aAK l u.n;unfold nY;simp;omega
theorem XH (m:v∈nY l u):v=u∨v∈l:=by
 unfold nY at m;rcases lma.1 m with m|m;·exact .inr (lmt m)
 ·rcases lmc.1 m with m|m;·exact .inl m
  ·exact .inr (lmd m)
def dF (b:Bk)(x:Wx):Int:=jQ b (decide (0<=kK b.hl x.n)) x
def eY (b:Bk)(x:Wx):List Hx:=mO b x.n (mW b.hl x.n) (decide (0<=kK b.hl x.n)) x
theorem BQ (x:Wx)(c b a:Int)(w:Wd)(f:x.In w)(d:x.Fit):
 aW 56 #[x.val,I c,I b,I a] w λe w'=>(∃v,e=rt v/\aN w' w.heap.size v (bL x c b a))/\aG w w':=
 cw.1 (oS 4 om x c b a w f d.wn d.ln d.yn)
def GG (b:Bk)(x:Wx)(z:Nat)(e:Ending)(w':World):Prop:=
 (aO b=false/\e=rt (.tuple #[Bk.val ⟨0,none,[],0,none,[],0⟩,gF 0 0 0,I 1]))∨
 (aO b=true/\∃b':Bk,e=rt (.tuple #[b'.val,iA b (decide (0<=kK b.hl x.n)) x,I (dF b x)])/\b'.now=b.now/\b'.fl=b.fl/\aT (eY b x) b'.hl/\dS z w' b')
abbrev told3 (n0:Nat)(XX:World)(y:Bk):World:=((XX.setCell (Y (n0+2) 0) (I y.now)).setCell (Y (n0+2) 1) (.slice y.fa y.fl.length y.fc)).setCell (Y (n0+2) 2) (.slice y.ha y.hl.length y.hc)
theorem UT (a:Nat)(b:Wd)(y:Bk):aU (λq=>q=a+2) b (told3 a b y):=
 (((aU.refl (λq=>q=a+2) b).set (g:=a+2) rfl _ _).set (g:=a+2) rfl _ _).set (g:=a+2) rfl _ _
def dp13 (j:Nat):List Nat:=[j]
def X8 (j:Nat):Bool:=j==14
def Pf13 (d iw kw:Int)(_:Nat)(v:Value):Prop:=v=gF d iw kw
abbrev YX (n0:Nat)(XX:World)(y:Bk)(d i k:Int):World:=(((((XX.setCell (Y (n0+2) 0) (I y.now)).setCell (Y (n0+2) 1) (.slice y.fa y.fl.length y.fc)).setCell (Y (n0+2) 2) (.slice y.ha y.hl.length y.hc)).setCell (Y (n0+3) 0) (I d)).setCell (Y (n0+3) 1) (I i)).setCell (Y (n0+3) 2) (I k)
theorem xO (a:Nat)(b:Wd)(y:Bk)(d i k:Int):aU (λq=>q=a+2∨q=a+3) b (YX a b y d i k):=
 ((((((aU.refl _ b).set (g:=a+2) (.inl rfl) _ _).set (g:=a+2) (.inl rfl) _ _).set (g:=a+2) (.inl rfl) _ _).set (g:=a+3) (.inr rfl) _ _).set (g:=a+3) (.inr rfl) _ _).set (g:=a+3) (.inr rfl) _ _
def RS (n0 C:Nat)(y:Bk)(x:Wx)(d iw kw:Int)(Z:Nat)(j:Nat)(vs:Nat->Value)(w:World):Prop:=
 match j with
 |0=>vs 0=y.val
 |1=>vs 1=(E (n0+1) 0)
 |2=>vs 2=.string x.n
 |3=>vs 3=x.val
 |4=>vs 4=(E C 1)
 |5=>vs 5=I iw
 |6=>vs 6=(E C 2)
 |7=>vs 7=I kw
 |8=>vs 8=(E C 0)
 |9=>vs 9=I d
 |10=>aN w Z (vs 10) (bL x iw kw d)
 |11=>∃ta tc,vs 11=Hx.val ⟨x.n,ta,(bL x iw kw d),tc,none,[],0⟩/\aN w Z (.slice ta (bL x iw kw d).length tc) (bL x iw kw d)
 |12=>∃ta tc a c,vs 12=Bk.val ⟨y.now,y.fa,y.fl,y.fc,a,nY y.hl ⟨x.n,ta,(bL x iw kw d),tc,none,[],0⟩,c⟩/\bW 74 3 Hx.cells w Z (.slice a (nY y.hl ⟨x.n,ta,(bL x iw kw d),tc,none,[],0⟩).length c) (nY y.hl ⟨x.n,ta,(bL x iw kw d),tc,none,[],0⟩)/\aN w Z (.slice ta (bL x iw kw d).length tc) (bL x iw kw d)
 |13=>∃b2:Bk,vs 13=b2.val/\b2.now=y.now/\b2.fl=y.fl/\aT (nY y.hl ⟨x.n,none,(bL x iw kw d),0,none,[],0⟩) b2.hl/\dS Z w b2
 |14=>vs 14=gF d iw kw
 |_=>True
theorem RS.zL (j:Nat)(m:Nat->Va)(w w':Wd)(h:RS k C y x d g i Z j m w)(b:aG w w'):RS k C y x d g i Z j m w':=by
 unfold RS at h ⊢;split
 all_goals first
  |exact h
  |exact aN.zL h b
  |exact(by obtain⟨ta,f,e,o⟩:=h;exact⟨ta,f,e,aN.zL o b⟩)
  |exact(by obtain⟨ta,f,a,c,e,o,p⟩:=h;exact⟨ta,f,a,c,e,bW.zL o b,aN.zL p b⟩)
  |exact(by obtain⟨n,e,q,r,l,s⟩:=h;exact⟨n,e,q,r,l,s.zL b⟩)
  |trivial
theorem RS.loc (j:Nat)(f a:Nat->Va)(w:Wd)(g:∀q∈dp13 j,f q=a q)(h:RS k C y x d i c Z j f w):RS k C y x d i c Z j a w:=by
 unfold RS at h ⊢;split
 all_goals first
  |(rw[←g _ (by simp[dp13])];exact h)
  |trivial
theorem RS.free (j:Nat)(e:Nat->Va)(w:Wd)(a:X8 j=true)(h:RS k C y x d g c Z j e w):Pf13 d g c j (e j):=by
 simp[X8]at a;subst a;exact h
def G13 (n0:Nat)(w7:World)(y:Bk)(x:Wx)(d iw kw:Int)(t:Nat)(vs:Nat->Value)(w':World):Prop:=
 ∃(w0:World) (b2:Bk),aG w7 w0/\vs 13=b2.val/\b2.now=y.now/\b2.fl=y.fl/\aT (nY y.hl ⟨x.n,none,bL x iw kw d,0,none,[],0⟩) b2.hl/\dS w7.heap.size w0 b2/\w'=if t=16 then told3 n0 w0 b2 else w0
theorem wM (b:Bk)(x:Wx)(w:Wd)(yv:pQ b w)(hq:iX w b)(hx:iL w x):
 aW 27 #[b.val,x.val] w λe w'=>GG b x w.heap.size e w'/\aG w w':=by
 have N1:aG w (w.alloc b.obj):=aC (br _ _) _;have A1:=wnq w b.obj;obtain⟨U1,zx⟩:∃U,w.alloc b.obj=U:=⟨_,rfl⟩;have z1:U1.heap.size=w.heap.size+1:=by rw[←zx];simp
 rw[zx]at N1 A1;have M2:aG U1 (U1.alloc x.obj):=aC (br _ _) _;have X2:=wnq U1 x.obj;obtain⟨U2,zy⟩:∃U,U1.alloc x.obj=U:=⟨_,rfl⟩;have z2:U2.heap.size=w.heap.size+2:=by rw[←zy];simp[z1]
 rw[zy]at M2 X2;have M3:aG U2 (U2.alloc (zo)):=aC (br _ _) _;have R3:=wnq U2 (zo);obtain⟨U3,zz⟩:∃U,U2.alloc (zo)=U:=⟨_,rfl⟩;have z3:U3.heap.size=w.heap.size+3:=by rw[←zz];simp[z2]
 rw[zz]at M3 R3;have M4:aG U3 (U3.alloc (jE 0 0 0)):=aC (br _ _) _;have Q4:=wnq U3 (jE 0 0 0);obtain⟨U4,yb⟩:∃U,U3.alloc (jE 0 0 0)=U:=⟨_,rfl⟩;have z4:U4.heap.size=w.heap.size+4:=by rw[←yb];simp[z3]
 rw[yb]at M4 Q4;have N4:aG w U4:=aE (aE (aE N1 M2) M3) M4;have A4:=bJ (bJ (bJ A1 M2) M3) M4;have X4:=bJ (bJ X2 M3) M4;have R4:=bJ R3 M4;rw[z1]at X4;rw[z2]at R4;rw[z3]at Q4;obtain⟨G,K,L⟩:=aM A4;obtain⟨p0,p1,p2,p3,p4,p5,p6,p7⟩:=gT X4;have yh:Hid _:=A4;have yo:Hid _:=X4;have ym:Hid _:=R4;have yl:Hid _:=Q4;clear N1 M2 M3 M4 A1 X2 R3 Q4 A4 X4 R4;go_enter func27,ntmps27;go_wp2_with fail;clear zx zy zz yb;refine(yv U4 N4).mono ?_;rintro e w1 ⟨rfl,S⟩;have N1:=aE N4 S;have zq:Hid _:=bJ yh.oQ S;have yn:Hid _:=bJ yo.oQ S;have zk:Hid _:=bJ ym.oQ S;have zj:Hid _:=bJ yl.oQ S;have hs1:=S.size;clear S N4 yv yh yo ym yl G K L p0 p1 p2 p3 p4 p5 p6 p7;cases hbk:aO b with
 |false=>
  have zr:=aI hbk;obtain⟨Z,r1,r2⟩:=aM zk.oQ;have rf:=jS zk.oQ;obtain⟨s0,s1,s2⟩:=aM zj.oQ;have sf:=jS zj.oQ;clear hbk;have HN:=aI N1;go_wp2_with fail;exact bpr (v:=.tuple #[Bk.val ⟨0,none,[],0,none,[],0⟩,gF 0 0 0,I 1]) (by simp[results,results27,go_sem,Z,r1,r2,s0,s1,s2]) rfl ⟨.inl ⟨zr.oQ,rfl⟩,(xO w.heap.size w1 ⟨0,none,[],0,none,[],0⟩ 0 0 0).under HN.oQ (nlq _) (λk hk=>by rcases hk with hk|hk<;>omega)⟩
 |true=>
  have zr:=aI hbk;clear hbk;obtain⟨G,K,L⟩:=aM zq.oQ;go_wp2_with fail;refine(jR b w1 (hq.hf.zL N1) hq.hnf (hq.hh.zL N1) hq.hnh (λh m=>⟨(hq.hgood h m).1.zL N1,(hq.hgood h m).2⟩)).mono ?_;rintro e w2 ⟨⟨y,rfl,e1,e2,yu,hA⟩,T⟩;have W:aG w2 (w2.alloc y.obj):=aC (br _ _) _;have Y3:=wnq w2 y.obj;have N3:=aE (aE N1 T) W;have ze:Hid _:=bJ (bJ zq.oQ T) W;have zi:Hid _:=bJ (bJ yn.oQ T) W;have O:Hid _:=bJ (bJ zk.oQ T) W;have zb:Hid _:=bJ (bJ zj.oQ T) W;have zc:Hid _:=hA.zL W;have hs2:=T.size;obtain⟨w3,yw⟩:=cI (w2.alloc y.obj);rw[yw]at Y3 N3 ze zi O zb zc;have zl:Hid _:=Y3;have zf:=aI e1;have za:=aI e2;have M:=aI yu;have hs3:w2.heap.size<w3.heap.size:=(cE Y3)
  have F:Hid (∀(XX:Wd) (y:Bk) (d i k c:Int),y.now=b.now->y.fl=b.fl->aG w XX->dS w1.heap.size XX y->aT (eY b x) y.hl->iA b (decide (0<=kK b.hl x.n)) x=gF d i k->dF b x=c->GG b x w.heap.size (rt (.tuple #[y.val,gF d i k,I c])) (YX w.heap.size XX y d i k)/\aG w (YX w.heap.size XX y d i k)):=λXX y d i k c h1 h2 hN hS hl z hc=>by
   refine⟨.inr ⟨zr.oQ,y,by rw[z,hc],h1,h2,hl,(hS.but (xO w.heap.size XX y d i k) (λk hk=>by rcases hk with hk|hk<;>omega)).weak om⟩,(xO w.heap.size XX y d i k).under hN (nlq _) (λk hk=>by rcases hk with hk|hk<;>omega)⟩
  clear G K L Y3 hA W T N1 zq yn zk zj e1 e2 yu;have zd:aG w3 w3:=br _ _;have A5:=bJ ze.oQ zd;have X5:=bJ zi.oQ zd;have Q:=bJ O.oQ zd;have P:=bJ zb.oQ zd;have Y5:=bJ zl.oQ zd;obtain⟨G,K,L⟩:=aM A5;obtain⟨p0,p1,p2,p3,p4,p5,p6,p7⟩:=gT X5;obtain⟨c0,c1,c2⟩:=aM Y5;obtain⟨Z,r1,r2⟩:=aM Q;have rf:=jS Q;obtain⟨s0,s1,s2⟩:=aM P;have sf:=jS P;clear A5 X5 Q P Y5;go_wp2_with fail;clear yw G K L p0 p1 p2 p3 p4 p5 p6 p7 c0 c1 c2 Z r1 r2 rf s0 s1 s2 sf;refine(wN b.fl x b.fa b.fc w3 (hq.hf.zL N3) hq.hnf hq.hs (hx.hi.zL N3) hx.hf).mono ?_;rintro e w4 ⟨rfl,yd⟩;have N4:=aE N3 yd;have N:=aI yd;obtain⟨v1,yg⟩:∃v,eR b.fl x=v:=⟨_,rfl⟩;rw[yg];have zh:=aI yg;clear yg yd zd;have A5:=bJ ze.oQ N.oQ;have X5:=bJ zi.oQ N.oQ;have Q:=bJ O.oQ N.oQ;have P:=bJ zb.oQ N.oQ;have Y5:=bJ zl.oQ N.oQ;obtain⟨G,K,L⟩:=aM A5;obtain⟨p0,p1,p2,p3,p4,p5,p6,p7⟩:=gT X5;obtain⟨c0,c1,c2⟩:=aM Y5;obtain⟨Z,r1,r2⟩:=aM Q;have rf:=jS Q;obtain⟨s0,s1,s2⟩:=aM P;have sf:=jS P;clear A5 X5 Q P Y5;cases v1 with
  |false=>
   have A:Hid (dF b x=2/\eY b x=b.hl/\iA b (decide (0<=kK b.hl x.n)) x=gF 0 0 0):=by
    have l:dF b x=2:=by unfold dF jQ;rw[zh.oQ];rfl
    exact⟨l,by unfold eY mO;unfold dF at l;rw[l];rfl,by unfold iA;unfold dF at l;rw[l];rfl⟩
   have HN:=aI N4;go_wp2_with fail;exact bpr (v:=.tuple #[y.val,gF 0 0 0,I 2]) (by simp[results,results27,go_sem,Z,r1,r2,s0,s1,s2]) rfl (F.oQ w4 y 0 0 0 2 zf.oQ za.oQ HN.oQ (zc.oQ.zL N.oQ) (by rw[A.oQ.2.1];exact M.oQ) A.oQ.2.2 A.oQ.1)
  |true=>
  go_wp2_with fail;refine(BT b x.n w4 (hq.hh.zL N4) hq.hnh).mono ?_;rintro e w5 ⟨rfl,u⟩;have N5:=aE N4 u;have B:=aI (aE N.oQ u);clear u G K L p0 p1 p2 p3 p4 p5 p6 p7 c0 c1 c2 Z r1 r2 rf s0 s1 s2 sf;have A5:=bJ ze.oQ B.oQ;have X5:=bJ zi.oQ B.oQ;have Q:=bJ O.oQ B.oQ;have P:=bJ zb.oQ B.oQ;have Y5:=bJ zl.oQ B.oQ;obtain⟨G,K,L⟩:=aM A5;obtain⟨p0,p1,p2,p3,p4,p5,p6,p7⟩:=gT X5;obtain⟨c0,c1,c2⟩:=aM Y5;obtain⟨Z,r1,r2⟩:=aM Q;have rf:=jS Q;obtain⟨s0,s1,s2⟩:=aM P;have sf:=jS P;clear A5 X5 Q P Y5;obtain⟨yp,yc⟩:=cI (kK b.hl x.n);have yi:=aI yc;rw[yc];clear yc;rcases nK b.hl x.n with h|⟨j,hj,h⟩
  case inr=>
   obtain rfl:yp=(j:Int):=yi.oQ.symm.trans h
   have A:Hid (dF b x=3/\eY b x=b.hl/\iA b (decide (0<=kK b.hl x.n)) x=gF 0 0 0):=by
    have l:dF b x=3:=by unfold dF jQ;rw[zh.oQ,h];simp
    exact⟨l,by unfold eY mO;unfold dF at l;rw[l];rfl,by unfold iA;unfold dF at l;rw[l];rfl⟩
   clear h hj;have HN:=aI N5;go_wp2_with fail;exact bpr (v:=.tuple #[y.val,gF 0 0 0,I 3]) (by simp[results,results27,go_sem,Z,r1,r2,s0,s1,s2]) rfl (F.oQ w5 y 0 0 0 3 zf.oQ za.oQ HN.oQ (zc.oQ.zL B.oQ) (by rw[A.oQ.2.1];exact M.oQ) A.oQ.2.2 A.oQ.1)
  obtain rfl:yp=-1:=yi.oQ.symm.trans h;have HF:Hid (decide (0<=kK b.hl x.n)=false):=by show decide (0<=kK b.hl x.n)=false;rw[h];rfl
  clear h;by_cases zw:16<=ln b.hl
  ·have ys:decide ((16:Int)<=(ln b.hl:Int))=true:=by simp;omega
   have A:Hid (dF b x=4/\eY b x=b.hl/\iA b (decide (0<=kK b.hl x.n)) x=gF 0 0 0):=by
    have l:dF b x=4:=by unfold dF jQ;rw[zh.oQ,HF.oQ,if_neg dz,if_neg dz,if_pos zw]
    exact⟨l,by unfold eY mO;unfold dF at l;rw[l];rfl,by unfold iA;unfold dF at l;rw[l];rfl⟩
   have HN:=aI N5;go_wp2_with fail;exact bpr (v:=.tuple #[y.val,gF 0 0 0,I 4]) (by simp[results,results27,go_sem,Z,r1,r2,s0,s1,s2]) rfl (F.oQ w5 y 0 0 0 4 zf.oQ za.oQ HN.oQ (zc.oQ.zL B.oQ) (by rw[A.oQ.2.1];exact M.oQ) A.oQ.2.2 A.oQ.1)
  have ys:decide ((16:Int)<=(ln b.hl:Int))=false:=by simp;omega
  obtain⟨d,C,D,fr,V⟩:=EZ (tH b x);have HB:=aI V;go_wp2_with fail;refine(GV b x w5 (hq.zL N5) (hx.zL N5)).mono ?_;rintro e w6 ⟨rfl,zp⟩;rw[V];have ye:aG w6 (w6.alloc (jE d C D)):=aC (br _ _) _;have C7:=wnq w6 (jE d C D);have NN:=aE (aE N5 zp) ye;have s:=aI (aE (aE B.oQ zp) ye);obtain⟨w7,yx⟩:=cI (w6.alloc (jE d C D));rw[yx]at C7 NN s;have yz:=aI C7;have hs6:=zp.size;have hs67:w6.heap.size<w7.heap.size:=(cE C7);have hs35:=B.oQ.size;clear ye C7 zp V G K L p0 p1 p2 p3 p4 p5 p6 p7 c0 c1 c2 Z r1 r2 rf s0 s1 s2 sf;have A5:=bJ ze.oQ s.oQ;have X5:=bJ zi.oQ s.oQ;have Q:=bJ O.oQ s.oQ;have P:=bJ zb.oQ s.oQ;have Y5:=bJ zl.oQ s.oQ;obtain⟨G,K,L⟩:=aM A5;obtain⟨p0,p1,p2,p3,p4,p5,p6,p7⟩:=gT X5;obtain⟨c0,c1,c2⟩:=aM Y5;obtain⟨Z,r1,r2⟩:=aM Q;have rf:=jS Q;obtain⟨s0,s1,s2⟩:=aM P;have sf:=jS P;clear A5 X5 Q P Y5;obtain⟨o0,o1,o2⟩:=aM yz.oQ;cases fr with
  |false=>
   have A:Hid (dF b x=5/\eY b x=b.hl/\iA b (decide (0<=kK b.hl x.n)) x=gF 0 0 0):=by
    have l:dF b x=5:=by unfold dF jQ;rw[zh.oQ,HF.oQ,if_neg dz,if_neg dz,if_neg zw,YE HB.oQ]
    exact⟨l,by unfold eY mO;unfold dF at l;rw[l];rfl,by unfold iA;unfold dF at l;rw[l];rfl⟩
   have HN:=aI NN;go_wp2_with fail;exact bpr (v:=.tuple #[y.val,gF 0 0 0,I 5]) (by simp[results,results27,go_sem,Z,r1,r2,s0,s1,s2]) rfl (F.oQ w7 y 0 0 0 5 zf.oQ za.oQ HN.oQ (zc.oQ.zL s.oQ) (by rw[A.oQ.2.1];exact M.oQ) A.oQ.2.2 A.oQ.1)
  |true=>
  have A:Hid (dF b x=0/\eY b x=nY b.hl ⟨x.n,none,bL x C D d,0,none,[],0⟩/\iA b (decide (0<=kK b.hl x.n)) x=gF d C D):=by
   obtain⟨r,hr⟩:=RL HB.oQ;have l:dF b x=0:=by unfold dF jQ;rw[zh.oQ,HF.oQ,if_neg dz,if_neg dz,if_neg zw,hr]
   exact⟨l,by unfold eY mO;unfold dF at l;rw[l,hr];rfl,by unfold iA;unfold dF at l;rw[l,hr];rfl⟩
  have zu:=aI (zc.oQ.zL s.oQ);have xi:ln y.hl=ln b.hl:=M.oQ.len;have yy:ln y.hl<=64:=om;have yk:Hid (∀h∈y.hl,h.Fit):=M.oQ.fit (λh m=>(hq.hgood h m).2);have xb:Hid (w3.heap.size<w7.heap.size):=by show w3.heap.size<w7.heap.size;omega
  clear xi;go_wp2_with fail;clear yx;refine ZC 8 15 16 [some 47,some 48,some 49,some 50,some 51,some 52,some 53,some 54,some 55,some 56,some 57,some 58,some 59,some 60,some 61] X8 dp13 (RS w.heap.size w6.heap.size y x d C D w7.heap.size) (Pf13 d C D) (G13 w.heap.size w7 y x d C D) RS.zL RS.loc RS.free ?step ?free ?g0 ?gf ?store ?fin
  case step=>
   intro ii o g w' yt J a X;match ii,yt with
   |0,_=>
    cases J;have G:=ctq a c0;have K:=ctq a c1;have L:=ctq a c2;gi_wp2;exact⟨_,uhx,rfl,br _ _⟩
   |1,_|4,_|6,_|8,_=>
    cases J;gi_wp2;exact⟨_,uhx,rfl,br _ _⟩
   |2,_=>
    cases J;have d1:g 1=_:=Zq X 1;have G:=ctq a p0;gi_wp2;exact⟨_,by simp[aH,d1],rfl,br _ _⟩
   |3,_=>
    cases J;have G:=ctq a p0;have K:=ctq a p1;have L:=ctq a p2;have k3:=ctq a p3;have k4:=ctq a p4;have k5:=ctq a p5;have k6:=ctq a p6;have k7:=ctq a p7;gi_wp2;exact⟨_,uhx,rfl,br _ _⟩
   |5,_=>
    cases J;have d4:g 4=_:=Zq X 4;have K:=ctq a o1;gi_wp2;exact⟨_,by simp[aH,d4],rfl,br _ _⟩
   |7,_=>
    cases J;have d6:g 6=_:=Zq X 6;have L:=ctq a o2;gi_wp2;exact⟨_,by simp[aH,d6],rfl,br _ _⟩
   |9,_=>
    cases J;have d8:g 8=_:=Zq X 8;have G:=ctq a o0;gi_wp2;exact⟨_,by simp[aH,d8],rfl,br _ _⟩
   |10,_=>
    cases J;have d3:g 3=_:=Zq X 3;have d5:g 5=_:=Zq X 5;have d7:g 7=_:=Zq X 7;have d9:g 9=_:=Zq X 9;simp only[aD,Act.put];rw[d3,d5,d7,d9];gi_wp2_with fail;refine tqx ?_;refine(cw.2 (BQ x C D d w' (hx.hi.zL (aE NN a)) hx.hf)).mono ?_;rintro e w5 ⟨⟨v5,rfl,yr⟩,u⟩;have zt:Hid _:=yr.weak (base':=w7.heap.size) a.size;clear yr;gi_wp2;exact⟨_,by simp[aH,d3,d5,d7,d9],zt.oQ,u⟩
   |11,_=>
    cases J;have d2:g 2=_:=Zq X 2;have zm:aN w' w7.heap.size (g 10) (bL x C D d):=Zq X 10;obtain⟨ta,tc,z,_⟩:=zm.slice;rw[z]at zm;have HO:=aI zm;clear zm;simp only[aD,Act.put];rw[d2,z];gi_wp2;exact⟨_,by simp[aH,d2,z],⟨ta,tc,rfl,HO.oQ⟩,br _ _⟩
   |12,_=>
    cases J;have d0:g 0=_:=Zq X 0;have xe:=Zq X 11;obtain⟨ta,tc,z,hO⟩:=xe;have HO:=aI hO;clear hO;simp only[aD,Act.put];rw[d0,z];gi_wp2_with fail;refine tqx ?_;refine(cw.2 (SW y ⟨x.n,ta,bL x C D d,tc,none,[],0⟩ w1.heap.size w' (zu.oQ.h.zL a) yy)).mono ?_;rintro e w5 ⟨⟨a',c',rfl,hX⟩,u⟩;have HX:Hid (bW 74 3 Hx.cells w5 w7.heap.size _ _):=hX.weak (base':=w7.heap.size) a.size;have zt:=aI (HO.oQ.zL u);clear hX;gi_wp2;exact⟨_,by simp[aH,d0,z],⟨ta,tc,a',c',rfl,HX.oQ,zt.oQ⟩,u⟩
   |13,_=>
    cases J;have xf:=Zq X 12;obtain⟨ta,tc,a',c',z,hX,hO⟩:=xf;have HX:=aI hX;have HO:=aI hO;clear hX hO;simp only[aD,Act.put];rw[z];gi_wp2_with fail;refine tqx ?_
    refine(cw.2 (jR ⟨y.now,y.fa,y.fl,y.fc,a',nY y.hl ⟨x.n,ta,bL x C D d,tc,none,[],0⟩,c'⟩ w' ((zu.oQ.f.xs Fx.cells_length).zL a) (by rw[za.oQ];exact hq.hnf) (HX.oQ.xs Hx.cells_length) (by rw[XG];omega) (λh m=>by
     rcases XH m with rfl|m;·exact⟨⟨HO.oQ.xs,.inl rfl⟩,⟨by have:=uQ x C D d;show(ln (bL x C D d))<=_;omega,sm,hx.hf.sn⟩⟩
     ·exact⟨(zu.oQ.inn h m).zL a,yk.oQ h m⟩))).mono ?_
    rintro e w5 ⟨⟨H,rfl,e1,e2,hl,hS⟩,u⟩;have xd:=aI (hS.weak a.size);have yj:Hid (H.now=y.now/\H.fl=y.fl):=⟨e1,e2⟩;have xa:Hid (aT (nY y.hl ⟨x.n,none,bL x C D d,0,none,[],0⟩) H.hl):=aT.trans (m:=nY y.hl ⟨x.n,ta,bL x C D d,tc,none,[],0⟩) (GC (aT.refl _) ⟨rfl,rfl,rfl⟩) hl;clear hS e1 e2 hl;gi_wp2;exact⟨_,by simp[aH,z],⟨H,rfl,yj.oQ.1,yj.oQ.2,xa.oQ,xd.oQ⟩,u⟩
   |14,_=>
    cases J;have G:=ctq a o0;have K:=ctq a o1;have L:=ctq a o2;gi_wp2;exact⟨_,uhx,rfl,br _ _⟩
   |q+15,h=>omega
  case free=>
   intro ii o g w' t yt yf J xg xh hG X;obtain rfl:ii=14:=by simpa[X8]using yf
   obtain rfl:t=16:=om;cases J;obtain⟨w0,H,R,z,e1,e2,hl,hS,hw⟩:=hG;rw[if_pos rfl]at hw;have zn:aU (λq=>q=w.heap.size+2) w0 w':=by rw[hw];exact UT _ _ _
   have G:=zn.cell (p:=(ya w6 0)) (by show¬(w6.heap.size=w.heap.size+2);omega) (ctq R o0);have K:=zn.cell (p:=(ya w6 1)) (by show¬(w6.heap.size=w.heap.size+2);omega) (ctq R o1);have L:=zn.cell (p:=(ya w6 2)) (by show¬(w6.heap.size=w.heap.size+2);omega) (ctq R o2);clear hw zn z e1 e2 hl hS R;gi_wp2
   first
    |exact⟨_,uhx,rfl,rfl⟩
    |exact⟨_,uhx,rfl⟩
  case g0=>
   intro g w' a hp;obtain⟨H,e,h1,h2,h3,h4⟩:=hp 13 dz rfl;exact⟨w',H,a,e,h1,h2,h3,h4,rfl⟩
  case gf=>
   intro t g w' ii v yf hG;obtain rfl:ii=14:=by simpa[X8]using yf
   exact hG
  case store=>
   intro t o g w' xg xh J hG X;obtain rfl:t=15:=om;cases J;obtain⟨w0,H,R,z,e1,e2,hl,hS,hw⟩:=hG;rw[if_neg dz]at hw;subst hw;have M8:=aE s.oQ R;have R8:=bJ O.oQ M8;obtain⟨g0,g1,g2⟩:=aM R8;have gf:=jS R8;have zv:=aI hS;have zs:=aI hl;have zg:Hid (H.now=y.now/\H.fl=y.fl):=⟨e1,e2⟩;clear R8 M8 hS hl e1 e2;simp only[aD,Act.put];rw[z];gi_wp2;exact⟨undef,by simp[aH,z],w',H,R,z,zg.oQ.1,zg.oQ.2,zs.oQ,zv.oQ,by rw[if_pos rfl]⟩
  case fin=>
   intro g w9 hG hp;have yq:g 14=_:=hp 14 dz rfl;obtain⟨w8,H,a,z,e1,e2,hl,hS,hw⟩:=hG;rw[if_pos rfl]at hw;subst hw;have zv:=aI hS;have zg:Hid (H.now=y.now/\H.fl=y.fl):=⟨e1,e2⟩;have zs:=aI hl;have xc:=aI (aE NN a);have hs7:w3.heap.size<w7.heap.size:=xb.oQ;have M8:=aE s.oQ a;clear hp hS e1 e2 hl;simp only[lds,ldz,aD,Act.put];rw[z,yq];clear z yq G K L p0 p1 p2 p3 p4 p5 p6 p7 c0 c1 c2 Z r1 r2 rf s0 s1 s2 sf o0 o1 o2;have R8:=bJ O.oQ M8;have Q8:=bJ zb.oQ M8;obtain⟨Z,r1,r2⟩:=aM R8;have rf:=jS R8;obtain⟨s0,s1,s2⟩:=aM Q8;have sf:=jS Q8;clear R8 Q8 M8 a NN;generalize g 0=v0,g 1=v1,g 2=v2,g 3=v3,g 4=v4,g 5=v5,g 6=v6,g 7=v7,g 8=v8,g 9=v9,g 10=v10,g 11=v11,g 12=v12,g 15=v15;gi_wp2_with fail;go_wp2_with fail;exact bpr (v:=.tuple #[H.val,gF d C D,I 0]) (by simp[results,results27,go_sem,Z,r1,r2,s0,s1,s2]) rfl (F.oQ w8 H d C D 0 (zg.oQ.1.trans zf.oQ) (zg.oQ.2.trans za.oQ) xc.oQ (zv.oQ.weak om) (by rw[A.oQ.2.1];exact aT.trans (GC M.oQ ⟨rfl,rfl,rfl⟩) zs.oQ) A.oQ.2.2 A.oQ.1)
end Go.Proofs.YtoolgmmljacfmaaGreatDoor
namespace Go.Proofs.YtoolgmmljacfmaaGreatDoor
open Go.Shelf
def nZ (b:Bk)(v:Ev):Int:=if v.k=4 then fK b 1 else b.now
def n5 (b:Bk)(v:Ev):List Hx:=if v.k=1 then eY b v.x else if v.k=2 then gA b v.n v.tl else if v.k=3 then dI b v.n v.t else if v.k=4 then eU b 1 else b.hl
def qX (b:Bk)(v:Ev):Int:=if v.k=1 then dF b v.x else if v.k=2 then dX b v.n v.tl else if v.k=3 then cG b v.n else if v.k=4 then cX b 1 else 2
end Go.Proofs.YtoolgmmljacfmaaGreatDoor
namespace Go.Proofs.YtoolgmmljacfmaaGreatDoor
open Go.Shelf
attribute [local go_sem] Oper.semAt_some
variable {b:Bk}
theorem pQ.zL {w w':Wd}(h:pQ b w)(c:aG w w'):pQ b w':=λW a=>h W (aE c a)
theorem GM (b:Bk)(v:Ev)(w:Wd)(O:pQ b w)(l:iX w b)(hx:iL w v.x)(ht:jG w v.ta v.tl)(hnt:ln v.tl<=1048576):
 aW 12 #[b.val,v.val] w λe w'=>sL b (nZ b v) (n5 b v) (qX b v) w.heap.size e w'/\aG w w':=by
 have N0:aG w (((w.alloc b.obj).alloc v.obj).alloc (zo)):=aC (aC (aC (br _ _) _) _) _;have A0:=(halq ((w.alloc b.obj).alloc v.obj) (zo) w.heap.size so).trans ((halq (w.alloc b.obj) v.obj w.heap.size sm).trans (wnq w b.obj));have T0:=(halq ((w.alloc b.obj).alloc v.obj) (zo) (w.alloc b.obj).heap.size sm).trans (wnq (w.alloc b.obj) v.obj);have R0:=wnq ((w.alloc b.obj).alloc v.obj) (zo);simp only[wsa]at T0 R0;obtain⟨W0,zf⟩:=cI (((w.alloc b.obj).alloc v.obj).alloc (zo));rw[zf]at N0 A0 T0 R0;have hz1:w.heap.size+1+1<W0.heap.size:=(cE R0);obtain⟨k0,k1,k2⟩:=aM A0;have za:=aI A0;have zd:=aI T0;have zc:Hid _:=R0;clear A0 T0 R0;go_enter func12,ntmps12;go_wp2_with fail;clear zf k0 k1 k2;refine(O W0 N0).mono ?_;rintro e w1 ⟨rfl,H⟩;have W:=aE N0 H;have hs1:=H.size;have zb:=aI (bJ za.oQ H);have ze:=aI (bJ zd.oQ H);have U:Hid _:=bJ zc.oQ H;clear H za zd zc N0;have P:∀(X:Wd) (u v x:Va),aU (λk=>k=w.heap.size+1+1) X (((X.setCell (Y (w.heap.size+1+1) 0) u).setCell (Y (w.heap.size+1+1) 1) v).setCell (Y (w.heap.size+1+1) 2) x):=λX u v x=>(((aU.refl (λk=>k=w.heap.size+1+1) X).set (g:=w.heap.size+1+1) rfl _ _).set (g:=w.heap.size+1+1) rfl _ _).set (g:=w.heap.size+1+1) rfl _ _;cases hbk:aO b with
 |false=>
  have s:Hid _:=hbk;obtain⟨Q,S,T⟩:=aM U.oQ;have rf:=jS U.oQ;clear hbk;go_wp2_with fail;exact bpr (v:=.tuple #[Bk.val ⟨0,none,[],0,none,[],0⟩,I 1]) (by simp[results,results12,go_sem,Q,S,T]) rfl ⟨.inl ⟨s.oQ,rfl⟩,(P w1 _ _ _).under W (nlq _) (λk hk=>by rw[hk];omega)⟩
 |true=>
  have s:=aI hbk
  have q:Hid (∀(X:Wd) (y:Bk) (c:Int),y.now=nZ b v->y.fl=b.fl->aT (n5 b v) y.hl->qX b v=c->aG w1 X->dS w1.heap.size X y->sL b (nZ b v) (n5 b v) (qX b v) w.heap.size (rt (.tuple #[y.val,I c])) (((X.setCell (Y (w.heap.size+1+1) 0) (I y.now)).setCell (Y (w.heap.size+1+1) 1) (fs y)).setCell (Y (w.heap.size+1+1) 2) (hs y))/\aG w (((X.setCell (Y (w.heap.size+1+1) 0) (I y.now)).setCell (Y (w.heap.size+1+1) 1) (fs y)).setCell (Y (w.heap.size+1+1) 2) (hs y))):=λX y c B G J K hX z=>by
   refine⟨.inr ⟨s.oQ,y,by rw[K],B,G,J,(z.but (P X _ _ _) (λk hk=>by rw[hk];omega)).weak om⟩,(P X _ _ _).under (aE W hX) (nlq _) (λk hk=>by rw[hk];omega)⟩
  have r:Hid (∀X,aG w1 X->X.cell? (Y (w.heap.size+1+1) 0)=some (I 0)/\X.cell? (Y (w.heap.size+1+1) 1)=some (ms)/\X.cell? (Y (w.heap.size+1+1) 2)=some (ms)/\∀i,X.frozen? (Y (w.heap.size+1+1) i)=false):=λX hX=>by
   have R:=bJ U.oQ hX;exact⟨aB R rfl,aB R rfl,aB R rfl,λi=>by simp[World.frozen?,R]⟩
  obtain⟨k0,k1,k2⟩:=aM zb.oQ;obtain⟨V,e1,e2,e3,e4,e5,e6,e7,e8,e9,L,M⟩:=cells12 ze.oQ;have a:=aI W;clear hbk zb ze U;by_cases B:v.k=1
  ·have p:Hid (nZ b v=b.now/\n5 b v=eY b v.x/\qX b v=dF b v.x):=⟨by simp[nZ,B],by simp[n5,B],by simp[qX,B]⟩;rw[B]at V;clear W B;go_wp2_with fail;refine(wM b v.x w1 (O.zL a.oQ) (l.zL a.oQ) (hx.zL a.oQ)).mono ?_;rintro e w2 ⟨hT,f⟩;rcases hT with⟨N,_⟩|⟨_,y,rfl,C,D,F,z⟩;·rw[s.oQ]at N;cases N
   obtain⟨d,iw,kk,hv⟩:∃d i k,iA b (decide (0<=kK b.hl v.x.n)) v.x=gF d i k:=by
    obtain⟨d,i,k,h,_⟩:=DF b (decide (0<=kK b.hl v.x.n)) v.x;exact⟨d,i,k,h⟩
   obtain⟨c,A⟩:=cI (dF b v.x);rw[hv,A];clear k0 k1 k2 V e1 e2 e3 e4 e5 e6 e7 e8 e9 L M hv;have j:Hid (y.now=nZ b v/\y.fl=b.fl/\aT (n5 b v) y.hl/\qX b v=c):=⟨by rw[p.oQ.1];exact C,D,by rw[p.oQ.2.1];exact F,by rw[p.oQ.2.2];exact A⟩;clear C D F A;have Z:aG w2 ((w2.alloc (bo y)).alloc (jE d iw kk)):=aC (aC (br _ _) _) _;have o:Hid _:=z.zL Z;have m:Hid _:=aE f Z;obtain⟨Q,S,T,rf⟩:=r.oQ _ (aE f Z);go_wp2_with fail;exact bpr (v:=.tuple #[y.val,I c]) (by simp[results,results12,go_sem,Q,S,T]) rfl (q.oQ _ y c j.oQ.1 j.oQ.2.1 j.oQ.2.2.1 j.oQ.2.2.2 m.oQ o.oQ)
  by_cases G:v.k=2
  ·have p:Hid (nZ b v=b.now/\n5 b v=gA b v.n v.tl/\qX b v=dX b v.n v.tl):=⟨by simp[nZ,G],by simp[n5,G],by simp[qX,G]⟩;rw[G]at V;clear W G B;go_wp2_with fail;refine(tG b v.n v.tl v.ta v.tc w1 (O.zL a.oQ) ⟨(l.zL a.oQ).hf,l.hnf,l.hcap,l.hc2,l.hs,(l.zL a.oQ).hh,l.hnh,(l.zL a.oQ).hgood,ht.zL a.oQ,hnt⟩).mono ?_;rintro e w2 ⟨hT,f⟩;rcases hT with⟨N,_⟩|⟨_,y,rfl,C,D,F,z⟩;·rw[s.oQ]at N;cases N
   obtain⟨c,A⟩:=cI (dX b v.n v.tl);rw[A];clear k0 k1 k2 V e1 e2 e3 e4 e5 e6 e7 e8 e9 L M;have j:Hid (y.now=nZ b v/\y.fl=b.fl/\aT (n5 b v) y.hl/\qX b v=c):=⟨by rw[p.oQ.1];exact C,D,by rw[p.oQ.2.1];exact F,by rw[p.oQ.2.2];exact A⟩;clear C D F A;obtain⟨Q,S,T,rf⟩:=r.oQ _ f;have o:Hid _:=z;have m:Hid _:=f;clear z f;go_wp2_with fail;exact bpr (v:=.tuple #[y.val,I c]) (by simp[results,results12,go_sem,Q,S,T]) rfl (q.oQ _ y c j.oQ.1 j.oQ.2.1 j.oQ.2.2.1 j.oQ.2.2.2 m.oQ o.oQ)
  by_cases J:v.k=3
  ·have p:Hid (nZ b v=b.now/\n5 b v=dI b v.n v.t/\qX b v=cG b v.n):=⟨by simp[nZ,J],by simp[n5,J],by simp[qX,J]⟩;rw[J]at V;clear W J B G;go_wp2_with fail;refine(vG b v.n v.t w1 (O.zL a.oQ) (l.zL a.oQ).hf l.hnf (l.zL a.oQ).hh l.hnh (l.zL a.oQ).hgood).mono ?_;rintro e w2 ⟨hT,f⟩;rcases hT with⟨N,_⟩|⟨_,y,rfl,C,D,F,z⟩;·rw[s.oQ]at N;cases N
   obtain⟨c,A⟩:=cI (cG b v.n);rw[A];clear k0 k1 k2 V e1 e2 e3 e4 e5 e6 e7 e8 e9 L M;have j:Hid (y.now=nZ b v/\y.fl=b.fl/\aT (n5 b v) y.hl/\qX b v=c):=⟨by rw[p.oQ.1];exact C,D,by rw[p.oQ.2.1];exact F,by rw[p.oQ.2.2];exact A⟩;clear C D F A;obtain⟨Q,S,T,rf⟩:=r.oQ _ f;have o:Hid _:=z;have m:Hid _:=f;clear z f;go_wp2_with fail;exact bpr (v:=.tuple #[y.val,I c]) (by simp[results,results12,go_sem,Q,S,T]) rfl (q.oQ _ y c j.oQ.1 j.oQ.2.1 j.oQ.2.2.1 j.oQ.2.2.2 m.oQ o.oQ)
  by_cases K:v.k=4
  ·have p:Hid (nZ b v=fK b 1/\n5 b v=eU b 1/\qX b v=cX b 1):=⟨by simp[nZ,K],by simp[n5,K],by simp[qX,K]⟩;rw[K]at V;clear W K B G J;go_wp2_with fail;refine(vO b 1 w1 (O.zL a.oQ) (l.zL a.oQ).hf l.hnf (l.zL a.oQ).hh l.hnh (l.zL a.oQ).hgood).mono ?_;rintro e w2 ⟨hT,f⟩;rcases hT with⟨N,_⟩|⟨_,y,rfl,C,D,F,z⟩;·rw[s.oQ]at N;cases N
   obtain⟨c,A⟩:=cI (cX b 1);rw[A];clear k0 k1 k2 V e1 e2 e3 e4 e5 e6 e7 e8 e9 L M;have j:Hid (y.now=nZ b v/\y.fl=b.fl/\aT (n5 b v) y.hl/\qX b v=c):=⟨by rw[p.oQ.1];exact C,D,by rw[p.oQ.2.1];exact F,by rw[p.oQ.2.2];exact A⟩;clear C D F A;obtain⟨Q,S,T,rf⟩:=r.oQ _ f;have o:Hid _:=z;have m:Hid _:=f;clear z f;go_wp2_with fail;exact bpr (v:=.tuple #[y.val,I c]) (by simp[results,results12,go_sem,Q,S,T]) rfl (q.oQ _ y c j.oQ.1 j.oQ.2.1 j.oQ.2.2.1 j.oQ.2.2.2 m.oQ o.oQ)
  have p:Hid (nZ b v=b.now/\n5 b v=b.hl/\qX b v=2):=⟨by simp[nZ,K],by simp[n5,B,G,J,K],by simp[qX,B,G,J,K]⟩;have q1:(v.k==1)=false:=beq_false_of_ne B;have q2:(v.k==2)=false:=beq_false_of_ne G;have q3:(v.k==3)=false:=beq_false_of_ne J;have q4:(v.k==4)=false:=beq_false_of_ne K;clear W B G J K;go_wp2_with fail;refine(jR b w1 (l.zL a.oQ).hf l.hnf (l.zL a.oQ).hh l.hnh (l.zL a.oQ).hgood).mono ?_;rintro e w2 ⟨⟨y,rfl,C,D,F,z⟩,f⟩;clear k0 k1 k2 V e1 e2 e3 e4 e5 e6 e7 e8 e9 L M;have j:Hid (y.now=nZ b v/\y.fl=b.fl/\aT (n5 b v) y.hl/\qX b v=2):=⟨by rw[p.oQ.1];exact C,D,by rw[p.oQ.2.1];exact F,p.oQ.2.2⟩;clear C D F;obtain⟨Q,S,T,rf⟩:=r.oQ _ f;have o:Hid _:=z;have m:Hid _:=f;clear z f;go_wp2_with fail;exact bpr (v:=.tuple #[y.val,I 2]) (by simp[results,results12,go_sem,Q,S,T]) rfl (q.oQ _ y 2 j.oQ.1 j.oQ.2.1 j.oQ.2.2.1 j.oQ.2.2.2 m.oQ o.oQ)
