import Derived.Test.YtcdbcliaepcpfaaGreatDoorCh12
import Derived.Test.YtcdbcliaepcpfaaGreatDoorGd0
namespace Go.Proofs.YtcdbcliaepcpfaaGreatDoor
set_option maxRecDepth 100000
set_option maxHeartbeats 8000000
open Go.RowKit Go.Shelf
attribute [local go_sem] Oper.semAt_some
def ZU (P:Nat)(b:Bk)(x:Wx)(v1:Bool)(j:Nat)(v:Value)(_w:World):Prop:=
 match j with
 |0=>v=.pointer (some ⟨P,0,none⟩)
 |1=>v=.pointer (some ⟨P,0,none⟩)
 |2=>v=.pointer (some ⟨P,0,none⟩)
 |3=>v=.pointer (some ⟨P,1,none⟩)
 |4=>v=.slice b.fa b.fl.length b.fc
 |5=>v=x.val
 |6=>v=.bool v1
 |_=>True
def NZ (P:Nat)(b:Bk)(x:Wx)(d i k:Int)(fr:Bool)(Z:Nat)(j:Nat)(vs:Nat->Value)(w:World):Prop:=
 match j with
 |0=>vs 0=.pointer (some ⟨P,0,none⟩)
 |1=>vs 1=.pointer (some ⟨P,0,none⟩)
 |2=>vs 2=.pointer (some ⟨P,0,none⟩)
 |3=>vs 3=b.val
 |4=>vs 4=x.val
 |5=>vs 5=.tuple #[fW d i k,.bool fr]
 |6=>vs 6=.tuple #[fW d i k,.bool fr]
 |7=>vs 7=fW d i k
 |8=>vs 8=.bool fr
 |9=>∃B,vs 9=.pointer (some ⟨B,0,none⟩)/\Z<=B/\w.heap[B]?=some (iR 0 0 0)
 |_=>True
def ZO (j:Nat):List Nat:=[j]
def YZ (j:Nat):Bool:=j==8
def Z0 (fr:Bool)(_:Nat)(v:Value):Prop:=v=.bool fr
theorem NZ.zL {P:Nat}{b:Bk}{x:Wx}{d i k:Int}{a:Bool}{Z:Nat}(j:Nat)(c:Nat->Value)(w w':World)(h:NZ P b x d i k a Z j c w)(l:aF w w'):NZ P b x d i k a Z j c w':=by
 unfold NZ at h ⊢;split
 all_goals first
  |exact h
  |(obtain⟨B,e,f,g⟩:=h;exact⟨B,e,f,bJ g l⟩)
  |trivial
theorem NZ.loc {P:Nat}{b:Bk}{x:Wx}{d i k:Int}{c:Bool}{Z:Nat}(j:Nat)(e a:Nat->Value)(w:World)(f:∀q∈ZO j,e q=a q)(h:NZ P b x d i k c Z j e w):NZ P b x d i k c Z j a w:=by
 unfold NZ at h ⊢;split at h
 all_goals first
  |(rw[←f _ (by simp[ZO])];exact h)
  |trivial
theorem NZ.free {P:Nat}{b:Bk}{x:Wx}{d i k:Int}{a:Bool}{Z:Nat}(j:Nat)(e:Nat->Value)(w:World)(c:YZ j=true)(h:NZ P b x d i k a Z j e w):Z0 a j (e j):=by
 simp[YZ]at c;subst c;exact h
def G7 (W:World)(d i k:Int)(fr:Bool)(t:Nat)(vs:Nat->Value)(w':World):Prop:=
 ∃w0 B,aF W w0/\vs 6=.tuple #[fW d i k,.bool fr]/\vs 7=fW d i k/\vs 9=.pointer (some ⟨B,0,none⟩)/\W.heap.size<=B/\w0.heap[B]?=some (iR 0 0 0)/\w'=if t=11 then((w0.setCell ⟨B,0,none⟩ (.int .i64 d)).setCell ⟨B,1,none⟩ (.int .i64 i)).setCell ⟨B,2,none⟩ (.int .i64 k)else w0
def X8 (P B:Nat)(nm:ByteArray)(x:Wx)(d i k:Int)(tl:List Bx)(Z:Nat)(j:Nat)(v:Value)(w:World):Prop:=
 match j with
 |0=>v=.pointer (some ⟨P,0,none⟩)
 |1=>v=.pointer (some ⟨P,0,none⟩)
 |2=>v=.pointer (some ⟨P,3,none⟩)
 |3=>v=.string nm
 |4=>v=x.val
 |5=>v=.pointer (some ⟨B,1,none⟩)
 |6=>v=.int .i64 i
 |7=>v=.pointer (some ⟨B,2,none⟩)
 |8=>v=.int .i64 k
 |9=>v=.pointer (some ⟨B,0,none⟩)
 |10=>v=.int .i64 d
 |11=>aP w Z v tl
 |12=>∃a c,v=Hx.val ⟨nm,a,tl,c,none,[],0⟩/\aP w Z (.slice a tl.length c) tl
 |13=>∃K,v=.pointer (some ⟨K,0,none⟩)/\Z<=K/\w.heap[K]?=some (.cells #[.string ⟨#[]⟩,.slice none 0 0,.slice none 0 0] 90)
 |_=>True
theorem X8.zL {P B:Nat}{nm:ByteArray}{x:Wx}{d i k:Int}{g:List Bx}{Z:Nat}(j:Nat)(v:Value)(w w':World)(h:X8 P B nm x d i k g Z j v w)(f:aF w w'):X8 P B nm x d i k g Z j v w':=by
 unfold X8 at h ⊢;split
 all_goals first
  |exact h
  |exact aP.zL h f
  |(obtain⟨a,c,e,b⟩:=h;exact⟨a,c,e,aP.zL b f⟩)
  |(obtain⟨B,e,b,l⟩:=h;exact⟨B,e,b,bJ l f⟩)
  |trivial
def NU (P:Nat)(b:Bk)(i:Nat)(y:Hx)(Z:Nat)(j:Nat)(vs:Nat->Value)(w:World):Prop:=
 match j with
 |0=>vs 0=.pointer (some ⟨P,0,none⟩)
 |1=>vs 1=.pointer (some ⟨P,0,none⟩)
 |2=>vs 2=.pointer (some ⟨P,0,none⟩)
 |3=>vs 3=.pointer (some ⟨P,0,none⟩)
 |4=>vs 4=.pointer (some ⟨P,2,none⟩)
 |5=>vs 5=.slice b.ha b.hl.length b.hc
 |6=>vs 6=.pointer (some ⟨P,0,none⟩)
 |7=>vs 7=.pointer (some ⟨P,0,none⟩)
 |8=>vs 8=.pointer (some ⟨P,4,none⟩)
 |9=>vs 9=.int .i64 (i:Int)
 |10=>vs 10=y.val
 |11=>∃V,vs 11=.slice (some ⟨V,0,none⟩) 1 1/\Z<=V/\w.heap[V]?=some (.cells #[.string y.n,.slice y.ta y.tl.length y.tc,.slice y.na y.nl.length y.nc] 90)
 |_=>True
def ZI (j:Nat):List Nat:=[j]
def YN (j:Nat):Bool:=j==0
def Gt (W:World)(b:Bk)(i:Nat)(y:Hx)(z:Nat)(t:Nat)(vs:Nat->Value)(w':World):Prop:=
 match t with
 |13=>∃w0 a' c',aF W w0/\vs 12=.slice a' (b.hl.length+1) c'/\bQ 90 3 Hx.cells w' z (.slice a' (b.hl.length+1) c') (b.hl.take i++y::b.hl.drop i)/\c'<=maxLen/\aT (λq=>b.ha.map Addr.block=some q) w0 w'
 |12=>aF W w'/\vs 5=.slice b.ha b.hl.length b.hc/\vs 9=.int .i64 (i:Int)/\∃V,vs 11=.slice (some ⟨V,0,none⟩) 1 1/\W.heap.size<=V/\w'.heap[V]?=some (.cells #[.string y.n,.slice y.ta y.tl.length y.tc,.slice y.na y.nl.length y.nc] 90)
 |_=>True
def ZT (P:Nat)(_:Nat)(v:Value):Prop:=v=.pointer (some ⟨P,0,none⟩)
theorem NU.zL {P:Nat}{b:Bk}{i:Nat}{y:Hx}{Z:Nat}(j:Nat)(a:Nat->Value)(w w':World)(h:NU P b i y Z j a w)(f:aF w w'):NU P b i y Z j a w':=by
 unfold NU at h ⊢;split
 all_goals first
  |exact h
  |(obtain⟨V,e,c,d⟩:=h;exact⟨V,e,c,bJ d f⟩)
  |trivial
theorem NU.loc {P:Nat}{b:Bk}{i:Nat}{y:Hx}{Z:Nat}(j:Nat)(c a:Nat->Value)(w:World)(d:∀q∈ZI j,c q=a q)(h:NU P b i y Z j c w):NU P b i y Z j a w:=by
 unfold NU at h ⊢;split at h
 all_goals first
  |(rw[←d _ (by simp[ZI])];exact h)
  |trivial
theorem NU.free {P:Nat}{b:Bk}{i:Nat}{y:Hx}{Z:Nat}(j:Nat)(c:Nat->Value)(w:World)(a:YN j=true)(h:NU P b i y Z j c w):ZT P j (c j):=by
 simp[YN]at a;subst a;exact h
def iX (b:Bk)(f:Bool)(x:Wx):Int:=if eJ b.fl x=false then 2 else if f=true then 3 else if 16<=b.hl.length then 4 else(match sA b x with|[]=>5|_::_=>0)
def gX (b:Bk)(f:Bool)(x:Wx):Value:=if iX b f x=0 then(match sA b x with|[]=>fW 0 0 0|c::_=>fW c.d c.i c.k)else fW 0 0 0
def GJ (nm:ByteArray)(x:Wx)(c:Co):Hx:=⟨nm,none,bM x c.i c.k c.d,0,none,[],0⟩
def l3 (b:Bk)(nm:ByteArray)(i:Nat)(f:Bool)(x:Wx):List Hx:=if iX b f x=0 then(match sA b x with|[]=>b.hl|c::_=>b.hl.take i++GJ nm x c::b.hl.drop i)else b.hl
theorem OS (l r:List Hx){a b:Hx}(h:a.Like b):aU (l++a::r) (l++b::r):=by
 have:=(aU.refl (l++b::r)).set l.length h;simpa using this
theorem TP {l:List Co}{d i k:Int}(h:gM l=.tuple #[fW d i k,.bool false]):l=[]:=by
 cases l with
 |nil=>rfl
 |cons c r=>simp[gM]at h
theorem NP {l:List Co}{d i k:Int}(h:gM l=.tuple #[fW d i k,.bool true]):∃r,l=⟨d,i,k⟩::r:=by
 cases l with
 |nil=>simp[gM]at h
 |cons c r=>
  simp[gM]at h;obtain⟨a,b,e⟩:=h;exact⟨r,by rw[←a,←b,←e]⟩
theorem kR.after {z P:Nat}{w w':World}{b:Bk}{nm:ByteArray}{i:Nat}{f:Bool}(h:kR z P w b nm i f)(j:aT (λk=>w.heap.size<=k) w w'):kR z P w' b nm i f:=
 ⟨bE h.p j (λe=>by have:=(bU h.p);have g:w.heap.size<=P:=e;omega),⟨h.a.f.butRow j (λk _ _ _ l e=>by have:=l.lt;have g:w.heap.size<=k:=e;omega),h.a.h.butRow j (λk _ _ _ l e=>by have:=l.lt;have g:w.heap.size<=k:=e;omega),λx hx=>(h.a.t x hx).but j (λq m e=>by have:=((h.a.t x hx).bs_in q m).2;have g:w.heap.size<=q:=e;omega),h.a.d,h.a.c,h.a.cf⟩,h.zp⟩
theorem PK (z P:Nat)(b:Bk)(nm:ByteArray)(i:Nat)(f:Bool)(x:Wx)(w:World)(hI:kR z P w b nm i f)(hzw:z<=w.heap.size)(hA:iW w b)(hx:iL w x)(qj:b.hl.length<=64)(hi:i<=b.hl.length):
 aY 102 #[.pointer (some ⟨P,0,none⟩),x.val] w λe w'=>∃zs:Bk,e=.returned (.tuple #[gX b f x,pT (iX b f x)])/\zs.now=b.now/\zs.fl=b.fl/\aU (l3 b nm i f x) zs.hl/\kR z P w' zs nm i f/\aT (λk=>z<=k) w w':=by
 have N0:aF w ((w.alloc x.obj).alloc (iR 0 0 0)):=aB (aB (br _ _) _) _;have X0:=(halq (w.alloc x.obj) (iR 0 0 0) w.heap.size (by simp)).trans (wnq w x.obj);have R0:=wnq (w.alloc x.obj) (iR 0 0 0);rw[wsa]at R0;have J:Hid _:=hI;obtain⟨v1,xh⟩:∃v,eJ b.fl x=v:=⟨_,rfl⟩;have za:Hid _:=xh;clear hI xh;go_enter Tryz.func102,Tryz.ntmps102;go_wp2_with fail;obtain⟨W0,xa⟩:=cK ((w.alloc x.obj).alloc (iR 0 0 0));rw[xa]at N0 X0 R0 ⊢;have hz1:w.heap.size+1<W0.heap.size:=(bU R0);have P0:=bJ J.oQ.p N0;obtain⟨p0,p1,p2,p3,p4,p5⟩:=vT P0;obtain⟨x0,x1,x2,x3,x4,x5,x6,x7⟩:=gJ X0;have xw:Hid _:=X0;have xs:Hid _:=R0;have zn:∀(X:World) (u v y:Value),aT (λk=>k=w.heap.size+1) X (((X.setCell ⟨w.heap.size+1,0,none⟩ u).setCell ⟨w.heap.size+1,1,none⟩ v).setCell ⟨w.heap.size+1,2,none⟩ y):=λX u v y=>(((aT.refl (λk=>k=w.heap.size+1) X).set (g:=w.heap.size+1) rfl _ _).set (g:=w.heap.size+1) rfl _ _).set (g:=w.heap.size+1) rfl _ _;clear xa X0 R0 P0;refine pG 7 [some 9,some 10,some 11,some 12,some 13,some 14,some 15] (ZU P b x v1) (λ_ _ _ _ h _=>h) ?step ?fin
 case step=>
  intro W o j w' L l m C;match W,L with
  |0,_=>
   simp at l;subst l;simp only[aE,Act.put];gi_wp2;exact⟨_,by simp[aH],rfl,br _ _⟩
  |1,_|2,_|3,_=>
   simp at l;subst l;simp[Region.binds,ZU]at C;simp only[aE,Act.put,C];gi_wp2;exact⟨_,by simp[aH,C],rfl,br _ _⟩
  |4,_=>
   simp at l;subst l;have d3:j 3=_:=Zq C 3;have k1:=(m.cell (aA p1)).trans p1;simp only[aE,Act.put];rw[d3];gi_wp2;exact⟨_,by simp[aH,d3],rfl,br _ _⟩
  |5,_=>
   simp at l;subst l;have q0:=(m.cell (aA x0)).trans x0;have q1:=(m.cell (aA x1)).trans x1;have q2:=(m.cell (aA x2)).trans x2;have q3:=(m.cell (aA x3)).trans x3;have q4:=(m.cell (aA x4)).trans x4;have q5:=(m.cell (aA x5)).trans x5;have q6:=(m.cell (aA x6)).trans x6;have q7:=(m.cell (aA x7)).trans x7;simp only[aE,Act.put];gi_wp2;exact⟨_,by simp[aH],rfl,br _ _⟩
  |6,_=>
   simp at l;subst l;have d4:j 4=_:=Zq C 4;have d5:j 5=_:=Zq C 5;simp only[aE,Act.put];rw[d4,d5];gi_wp2_with fail;refine⟨trivial,rfl,?_⟩;refine(cw.2 (tV b.fl x b.fa b.fc w' ((hA.hf.zL N0).zL m) hA.hnf hA.hcap hA.hc2 hA.hs ((hx.hi.zL N0).zL m) hx.hf)).mono ?_;rintro e w5 ⟨rfl,zh⟩;rw[za.oQ];gi_wp2;exact⟨_,by simp[aH,d4,d5],rfl,zh⟩
  |q+7,h=>exact absurd h (by omega)
 case fin=>
  intro j w1 m I;have E:j 6=_:=I 6 (by decide);have N1:=aC N0 m;have X1:=bJ xw.oQ m;have R1:=bJ xs.oQ m;have P1:=bJ (bJ J.oQ.p N0) m;have hs1:=m.size;clear I m p0 p1 p2 p3 p4 p5 x0 x1 x2 x3 x4 x5 x6 x7;simp only[lds,List.drop_zero,aE,Act.put];rw[E];clear E;generalize j 0=u0;generalize j 1=u1;generalize j 2=u2;generalize j 3=u3;generalize j 4=u4;generalize j 5=u5;obtain⟨p0,p1,p2,p3,p4,p5⟩:=vT P1;obtain⟨x0,x1,x2,x3,x4,x5,x6,x7⟩:=gJ X1;obtain⟨r0,r1,r2⟩:=aM R1;have rf:=iQ R1;have xx:Hid _:=X1;have xt:Hid _:=R1;have yo:Hid _:=P1;clear X1 R1 P1;have zi:Hid (aT (λk=>w.heap.size<=k) w (((w1.setCell ⟨w.heap.size+1,0,none⟩ (.int .i64 0)).setCell ⟨w.heap.size+1,1,none⟩ (.int .i64 0)).setCell ⟨w.heap.size+1,2,none⟩ (.int .i64 0))):=(aT.below N1).trans ((zn w1 _ _ _).wide (λk T=>by have zl:k=w.heap.size+1:=T;show w.heap.size<=k;omega));have HA:Hid _:=J.oQ.after zi.out;have HW:Hid (aT (λk=>z<=k) w _):=zi.out.wide (λk T=>by have zl:w.heap.size<=k:=T;show z<=k;omega);cases v1 with
  |false=>
   gi_wp2_with fail;go_wp2_with fail;have Q:iX b f x=2:=by unfold iX;rw[za.oQ];rfl
   have HL:l3 b nm i f x=b.hl:=by unfold l3;rw[Q];rfl
   have HV:gX b f x=fW 0 0 0:=by unfold gX;rw[Q];rfl
   exact bpr (v:=.tuple #[fW 0 0 0,pT 2]) (by simp[results,Tryz.results102,go_sem,r0,r1,r2];rfl) rfl ⟨b,by rw[Q,HV],rfl,rfl,by rw[HL];exact aU.refl _,HA.oQ,HW.oQ⟩
  |true=>
  cases f with
  |true=>
   gi_wp2_with fail;go_wp2_with fail;have Q:iX b true x=3:=by unfold iX;rw[za.oQ];rfl
   have HL:l3 b nm i true x=b.hl:=by unfold l3;rw[Q];rfl
   have HV:gX b true x=fW 0 0 0:=by unfold gX;rw[Q];rfl
   exact bpr (v:=.tuple #[fW 0 0 0,pT 3]) (by simp[results,Tryz.results102,go_sem,r0,r1,r2];rfl) rfl ⟨b,by rw[Q,HV],rfl,rfl,by rw[HL];exact aU.refl _,HA.oQ,HW.oQ⟩
  |false=>
  by_cases ye:16<=b.hl.length
  ·have xc:decide ((16:Int)<=(b.hl.length:Int))=true:=by simp;omega
   gi_wp2_with fail;go_wp2_with fail;have Q:iX b false x=4:=by unfold iX;rw[za.oQ,if_neg (by decide),if_neg (by decide),if_pos ye]
   have HL:l3 b nm i false x=b.hl:=by unfold l3;rw[Q];rfl
   have HV:gX b false x=fW 0 0 0:=by unfold gX;rw[Q];rfl
   exact bpr (v:=.tuple #[fW 0 0 0,pT 4]) (by simp[results,Tryz.results102,go_sem,r0,r1,r2];rfl) rfl ⟨b,by rw[Q,HV],rfl,rfl,by rw[HL];exact aU.refl _,HA.oQ,HW.oQ⟩
  have xc:decide ((16:Int)<=(b.hl.length:Int))=false:=by simp;omega
  obtain⟨d,iw,k,fr,zj⟩:=DA (sA b x);have HB:=aG zj;clear zj;gi_wp2_with fail;go_wp2_with fail;refine SZ 6 10 11 [some 35,some 36,some 37,some 38,some 39,some 40,some 34,some 41,some 42,some 6] YZ ZO (NZ P b x d iw k fr w1.heap.size) (Z0 fr) (G7 w1 d iw k fr) NZ.zL NZ.loc NZ.free ?step ?free ?g0 ?gf ?store ?fin
  case step=>
   intro W o j w' L l m C;match W,L with
   |0,_=>
    simp at l;subst l;simp only[aE,Act.put];gi_wp2;exact⟨_,by simp[aH],rfl,br _ _⟩
   |1,_=>
    simp at l;subst l;have d0:j 0=_:=Zq C 0;simp only[aE,Act.put];rw[d0];gi_wp2;exact⟨_,by simp[aH,d0],rfl,br _ _⟩
   |2,_=>
    simp at l;subst l;have d1:j 1=_:=Zq C 1;simp only[aE,Act.put];rw[d1];gi_wp2;exact⟨_,by simp[aH,d1],rfl,br _ _⟩
   |3,_=>
    simp at l;subst l;have d2:j 2=_:=Zq C 2;have k0:=(m.cell (aA p0)).trans p0;have k1:=(m.cell (aA p1)).trans p1;have k2:=(m.cell (aA p2)).trans p2;simp only[aE,Act.put];rw[d2];gi_wp2;exact⟨_,by simp[aH,d2],rfl,br _ _⟩
   |4,_=>
    simp at l;subst l;have q0:=(m.cell (aA x0)).trans x0;have q1:=(m.cell (aA x1)).trans x1;have q2:=(m.cell (aA x2)).trans x2;have q3:=(m.cell (aA x3)).trans x3;have q4:=(m.cell (aA x4)).trans x4;have q5:=(m.cell (aA x5)).trans x5;have q6:=(m.cell (aA x6)).trans x6;have q7:=(m.cell (aA x7)).trans x7;simp only[aE,Act.put];gi_wp2;exact⟨_,by simp[aH],rfl,br _ _⟩
   |5,_=>
    simp at l;subst l;have d3:j 3=_:=Zq C 3;have d4:j 4=_:=Zq C 4;simp only[aE,Act.put];rw[d3,d4];gi_wp2_with fail;refine⟨trivial,rfl,?_⟩;refine(cw.2 (cw.1 (JW 10 (by omega) b x w' ((hA.zL N1).zL m) ((hx.zL N1).zL m)))).mono ?_;rintro e w5 ⟨rfl,zh⟩;rw[HB.oQ];gi_wp2;exact⟨_,by simp[aH,d3,d4],rfl,zh⟩
   |6,_=>
    simp at l;subst l;have d5:j 5=_:=Zq C 5;simp only[aE,Act.put];rw[d5];gi_wp2;exact⟨_,by simp[aH,d5],rfl,br _ _⟩
   |7,_|8,_=>
    simp at l;subst l;have E:j 6=_:=Zq C 6;simp only[aE,Act.put];rw[E];gi_wp2;exact⟨_,by simp[aH,E],rfl,br _ _⟩
   |9,_=>
    simp at l;subst l;simp only[aE,Act.put];gi_wp2;exact⟨_,by simp[aH],⟨w'.heap.size,rfl,m.size,wnq w' _⟩,aB (br _ _) _⟩
   |q+10,h=>exact absurd h (by omega)
  case free=>
   intro W o j w' t L S l ht qm O C;obtain rfl:W=8:=by simpa[YZ]using S
   simp at l;subst l;have E:j 6=.tuple #[fW d iw k,.bool fr]:=by obtain⟨_,_,_,E,_⟩:=O;exact E
   clear O;simp only[aE,Act.put];rw[E];gi_wp2
   first
    |exact⟨.bool fr,by simp[aH,E],rfl,rfl⟩
    |exact⟨.bool fr,by simp[aH,E],rfl⟩
  case g0=>
   intro j w' m I;obtain⟨B,e,h1,h2⟩:=I 9 (by decide) rfl;exact⟨w',B,m,I 6 (by decide) rfl,I 7 (by decide) rfl,e,h1,h2,rfl⟩
  case gf=>
   intro t j w' W v S O;obtain rfl:W=8:=by simpa[YZ]using S
   exact O
  case store=>
   intro t o j w' xz qa l O C;obtain rfl:t=10:=by omega
   simp at l;subst l;obtain⟨w0,B,qb,E,d7,d9,yx,G,hw⟩:=O;rw[if_neg (by decide)]at hw;subst hw;obtain⟨b0,b1,b2⟩:=aM G;have bf:=iQ G;have xn:=aG G;clear G;simp only[aE,Act.put];rw[d9,d7];gi_wp2;exact⟨undef,by simp[aH,E,d7,d9],w',B,qb,E,d7,d9,yx,xn.oQ,by rw[if_pos rfl]⟩
  case fin=>
   intro j w2' O I;have d8:j 8=_:=I 8 (by decide) rfl;obtain⟨w2,B,m,E,d7,d9,yx,G,xi⟩:=O;rw[if_pos rfl]at xi;subst xi;have N2:=aC N1 m;have xy:Hid _:=bJ xx.oQ m;have xu:Hid _:=bJ xt.oQ m;have xp:Hid _:=bJ yo.oQ m;have hs2:=m.size;obtain⟨b0,b1,b2⟩:=aM G;have bf:=iQ G;have B3:=aO (aO (aO G 0 (.int .i64 d)) 1 (.int .i64 iw)) 2 (.int .i64 k);have bB:=(((aT.refl (λq=>q=B) w2).set (g:=B) rfl 0 (.int .i64 d)).set (g:=B) rfl 1 (.int .i64 iw)).set (g:=B) rfl 2 (.int .i64 k);have hBw:B<w2.heap.size:=(bU G);clear I m G p0 p1 p2 p3 p4 p5 x0 x1 x2 x3 x4 x5 x6 x7 r0 r1 r2 rf;simp only[lds,List.drop_zero,aE,Act.put];rw[E,d7,d8,d9];clear E d7 d8 d9;generalize j 0=u0;generalize j 1=u1;generalize j 2=u2;generalize j 3=u3;generalize j 4=u4;generalize j 5=u5;have N3:=bB.under N2 (nlq _) (λq s=>by have zm:q=B:=s;omega);have ys:Hid _:=bE xy.oQ bB (λe=>by have e':w.heap.size=B:=e;omega);have zc:Hid _:=bE xu.oQ bB (λe=>by have e':w.heap.size+1=B:=e;omega);have zq:Hid _:=bE xp.oQ bB (λe=>by have e':P=B:=e;have:=(bU yo.oQ);omega);have ql:=bB.size;obtain⟨w3,yj⟩:=cK (((w2.setCell ⟨B,0,none⟩ (.int .i64 d)).setCell ⟨B,1,none⟩ (.int .i64 iw)).setCell ⟨B,2,none⟩ (.int .i64 k));rw[yj]at B3 bB N3 ys zc zq ql ⊢;have ya:=aG B3;obtain⟨r0,r1,r2⟩:=aM zc.oQ;have rf:=iQ zc.oQ;clear B3 bB;cases fr with
   |false=>
    gi_wp2_with fail;go_wp2_with fail;clear yj;have Q:iX b false x=5:=by unfold iX;rw[za.oQ,if_neg (by decide),if_neg (by decide),if_neg ye,TP HB.oQ]
    have HL:l3 b nm i false x=b.hl:=by unfold l3;rw[Q];rfl
    have HV:gX b false x=fW 0 0 0:=by unfold gX;rw[Q];rfl
    have zi:aT (λk=>w.heap.size<=k) w (((w3.setCell ⟨w.heap.size+1,0,none⟩ (.int .i64 0)).setCell ⟨w.heap.size+1,1,none⟩ (.int .i64 0)).setCell ⟨w.heap.size+1,2,none⟩ (.int .i64 0)):=(aT.below N3).trans ((zn w3 _ _ _).wide (λk T=>by have zl:k=w.heap.size+1:=T;show w.heap.size<=k;omega));exact bpr (v:=.tuple #[fW 0 0 0,pT 5]) (by simp[results,Tryz.results102,go_sem,r0,r1,r2];rfl) rfl ⟨b,by rw[Q,HV],rfl,rfl,by rw[HL];exact aU.refl _,J.oQ.after zi,zi.wide (λk T=>by have zl:w.heap.size<=k:=T;show z<=k;omega)⟩
   |true=>
   obtain⟨rest,yh⟩:=NP HB.oQ;have yl:=aG yh;have zk:iX b false x=0:=by unfold iX;rw[za.oQ,if_neg (by decide),if_neg (by decide),if_neg ye,yh]
   have yb:=aG zk;obtain⟨D,xg⟩:=cK (bM x iw k d);have yr:=aG xg;clear yh zk xg;gi_wp2_with fail;go_wp2_with fail;clear yj r0 r1 r2 rf;obtain⟨p0,p1,p2,p3,p4,p5⟩:=vT zq.oQ;obtain⟨x0,x1,x2,x3,x4,x5,x6,x7⟩:=gJ ys.oQ;obtain⟨c0,c1,c2⟩:=aM ya.oQ;refine pG 14 [some 47,some 48,some 49,some 50,some 51,some 52,some 53,some 54,some 55,some 56,some 57,some 58,some 59,some 8] (X8 P B nm x d iw k D w3.heap.size) X8.zL ?step ?fin
   case step=>
    intro W o j w' L l m C;match W,L with
    |0,_|5,_|7,_|9,_=>
     simp at l;subst l;simp only[aE,Act.put];gi_wp2;exact⟨_,by simp[aH],rfl,br _ _⟩
    |1,_=>
     simp at l;subst l;have d0:j 0=_:=Zq C 0;simp only[aE,Act.put];rw[d0];gi_wp2;exact⟨_,by simp[aH,d0],rfl,br _ _⟩
    |2,_=>
     simp at l;subst l;have d1:j 1=_:=Zq C 1;simp only[aE,Act.put];rw[d1];gi_wp2;exact⟨_,by simp[aH,d1],rfl,br _ _⟩
    |3,_=>
     simp at l;subst l;have d2:j 2=_:=Zq C 2;have k3:=(m.cell (aA p3)).trans p3;simp only[aE,Act.put];rw[d2];gi_wp2;exact⟨_,by simp[aH,d2],rfl,br _ _⟩
    |4,_=>
     simp at l;subst l;have q0:=(m.cell (aA x0)).trans x0;have q1:=(m.cell (aA x1)).trans x1;have q2:=(m.cell (aA x2)).trans x2;have q3:=(m.cell (aA x3)).trans x3;have q4:=(m.cell (aA x4)).trans x4;have q5:=(m.cell (aA x5)).trans x5;have q6:=(m.cell (aA x6)).trans x6;have q7:=(m.cell (aA x7)).trans x7;simp only[aE,Act.put];gi_wp2;exact⟨_,by simp[aH],rfl,br _ _⟩
    |6,_=>
     simp at l;subst l;have d5:j 5=_:=Zq C 5;have k1:=(m.cell (aA c1)).trans c1;simp only[aE,Act.put];rw[d5];gi_wp2;exact⟨_,by simp[aH,d5],rfl,br _ _⟩
    |8,_=>
     simp at l;subst l;have d7:j 7=_:=Zq C 7;have k1:=(m.cell (aA c2)).trans c2;simp only[aE,Act.put];rw[d7];gi_wp2;exact⟨_,by simp[aH,d7],rfl,br _ _⟩
    |10,_=>
     simp at l;subst l;have d9:j 9=_:=Zq C 9;have k1:=(m.cell (aA c0)).trans c0;simp only[aE,Act.put];rw[d9];gi_wp2;exact⟨_,by simp[aH,d9],rfl,br _ _⟩
    |11,_=>
     simp at l;subst l;have d4:j 4=_:=Zq C 4;have E:j 6=_:=Zq C 6;have d8:j 8=_:=Zq C 8;have zd:j 10=_:=Zq C 10;simp only[aE,Act.put];rw[d4,E,d8,zd];gi_wp2_with fail;refine⟨trivial,rfl,?_⟩;refine(cw.2 (pY x iw k d w' ((hx.hi.zL N3).zL m) hx.hc hx.hf.yn)).mono ?_;rintro e w5 ⟨⟨v5,rfl,yg⟩,zh⟩;rw[yr.oQ]at yg;have zo:Hid _:=aP.weak yg (base':=w3.heap.size) m.size;clear yg;gi_wp2;exact⟨_,by simp[aH,d4,E,d8,zd],zo.oQ,zh⟩
    |12,_=>
     simp at l;subst l;have d3:j 3=_:=Zq C 3;have zu:aP w' w3.heap.size (j 11) D:=Zq C 11;obtain⟨a,c,yd,_⟩:=zu.slice;rw[yd]at zu;have HO:Hid _:=zu;clear zu;simp only[aE,Act.put];rw[d3,yd];gi_wp2;exact⟨_,by simp[aH,d3,yd],⟨a,c,rfl,HO.oQ⟩,br _ _⟩
    |13,_=>
     simp at l;subst l;simp only[aE,Act.put];gi_wp2;exact⟨_,by simp[aH],⟨w'.heap.size,rfl,m.size,wnq w' _⟩,aB (br _ _) _⟩
    |q+14,h=>exact absurd h (by omega)
   case fin=>
    intro j w4 m I;obtain⟨a,c,ze,yf⟩:∃a c,j 12=Hx.val ⟨nm,a,D,c,none,[],0⟩/\aP w4 w3.heap.size (.slice a D.length c) D:=I 12 (by decide);obtain⟨K,yu,hKz,zf⟩:∃K,j 13=.pointer (some ⟨K,0,none⟩)/\w3.heap.size<=K/\w4.heap[K]?=some (.cells #[.string ⟨#[]⟩,.slice none 0 0,.slice none 0 0] 90):=I 13 (by decide);have N4:=aC N3 m;have hs4:=m.size;have xv:Hid _:=bJ zc.oQ m;have xq:Hid _:=bJ zq.oQ m;have xl:Hid _:=bJ ya.oQ m;obtain⟨k0,k1,k2⟩:=aM zf;have kf:=iQ zf;have K5:=aO (aO (aO zf 0 (.string nm)) 1 (.slice a D.length c)) 2 (.slice none 0 0);have bK:=(((aT.refl (λq=>q=K) w4).set (g:=K) rfl 0 (.string nm)).set (g:=K) rfl 1 (.slice a D.length c)).set (g:=K) rfl 2 (.slice none 0 0);have hlen4:B<w3.heap.size:=(bU ya.oQ);have hPw:P<w3.heap.size:=(bU zq.oQ);have hRw:w.heap.size+1<w3.heap.size:=(bU zc.oQ);have N5:=bK.under N4 (nlq _) (λq s=>by have zm:q=K:=s;omega);have yp:Hid _:=bE xv.oQ bK (λe=>by have e':w.heap.size+1=K:=e;omega);have yc:Hid _:=bE xq.oQ bK (λe=>by have e':P=K:=e;omega);have yk:Hid _:=bE xl.oQ bK (λe=>by have e':B=K:=e;omega)
    have zo:Hid (aP (((w4.setCell ⟨K,0,none⟩ (.string nm)).setCell ⟨K,1,none⟩ (.slice a D.length c)).setCell ⟨K,2,none⟩ (.slice none 0 0)) w3.heap.size (.slice a D.length c) D):=aP.but yf bK (λu e T=>by
     have zl:u.block=K:=T;rcases yf with⟨N,_⟩|⟨g',zv,N,_,_,f',M,_⟩;·simp only[Value.slice.injEq]at N;rw[N.1]at e;cases e
     ·simp only[Value.slice.injEq]at N;rw[N.1]at e;cases e;obtain⟨zt,A,_⟩:=M;have qi:g'=K:=zl;rw[qi,zf]at A;cases A)
    have qk:=bK.size;clear I m yf zf p0 p1 p2 p3 p4 p5 x0 x1 x2 x3 x4 x5 x6 x7 c0 c1 c2;simp only[lds,List.drop_zero,aE,Act.put];rw[ze,yu];clear ze yu;generalize j 0=u0;generalize j 1=u1;generalize j 2=u2;generalize j 3=u3;generalize j 4=u4;generalize j 5=u5;generalize j 6=u6;generalize j 7=u7;generalize j 8=u8;generalize j 9=u9;generalize j 10=u10;generalize j 11=u11;obtain⟨w5,xj⟩:=cK (((w4.setCell ⟨K,0,none⟩ (.string nm)).setCell ⟨K,1,none⟩ (.slice a D.length c)).setCell ⟨K,2,none⟩ (.slice none 0 0));rw[xj]at K5 bK N5 yp yc yk zo qk;have xo:=aG K5;clear K5 bK;gi_wp2_with fail;go_wp2_with fail;clear xj k0 k1 k2 kf;obtain⟨p0,p1,p2,p3,p4,p5⟩:=vT yc.oQ;obtain⟨y0,y1,y2⟩:=aM xo.oQ;have xk:Hid (∀w',aF w5 w'->bQ 90 3 Hx.cells w' z (.slice b.ha b.hl.length b.hc) b.hl):=λw' hb=>(J.oQ.a.h.zL N5).zL hb;refine SZ 6 12 13 [some 60,some 61,some 62,some 63,some 64,some 65,some 66,some 67,some 68,some 69,some 70,some 71,some 72] YN ZI (NU P b i ⟨nm,a,D,c,none,[],0⟩ w5.heap.size) (ZT P) (Gt w5 b i ⟨nm,a,D,c,none,[],0⟩ z) NU.zL NU.loc NU.free ?step ?free ?g0 ?gf ?store ?fin
    case step=>
     intro W o j w' L l m C;match W,L with
     |0,_|1,_|6,_=>
      simp at l;subst l;simp only[aE,Act.put];gi_wp2;exact⟨_,by simp[aH],rfl,br _ _⟩
     |2,_=>
      simp at l;subst l;have d1:j 1=_:=Zq C 1;simp only[aE,Act.put];rw[d1];gi_wp2;exact⟨_,by simp[aH,d1],rfl,br _ _⟩
     |3,_=>
      simp at l;subst l;have d2:j 2=_:=Zq C 2;simp only[aE,Act.put];rw[d2];gi_wp2;exact⟨_,by simp[aH,d2],rfl,br _ _⟩
     |4,_=>
      simp at l;subst l;have d3:j 3=_:=Zq C 3;simp only[aE,Act.put];rw[d3];gi_wp2;exact⟨_,by simp[aH,d3],rfl,br _ _⟩
     |5,_=>
      simp at l;subst l;have d4:j 4=_:=Zq C 4;have k1:=(m.cell (aA p2)).trans p2;simp only[aE,Act.put];rw[d4];gi_wp2;exact⟨_,by simp[aH,d4],rfl,br _ _⟩
     |7,_=>
      simp at l;subst l;have E:j 6=_:=Zq C 6;simp only[aE,Act.put];rw[E];gi_wp2;exact⟨_,by simp[aH,E],rfl,br _ _⟩
     |8,_=>
      simp at l;subst l;have d7:j 7=_:=Zq C 7;simp only[aE,Act.put];rw[d7];gi_wp2;exact⟨_,by simp[aH,d7],rfl,br _ _⟩
     |9,_=>
      simp at l;subst l;have d8:j 8=_:=Zq C 8;have k1:=(m.cell (aA p4)).trans p4;simp only[aE,Act.put];rw[d8];gi_wp2;exact⟨_,by simp[aH,d8],rfl,br _ _⟩
     |10,_=>
      simp at l;subst l;have k1:=(m.cell (aA y0)).trans y0;have k2:=(m.cell (aA y1)).trans y1;have k3:=(m.cell (aA y2)).trans y2;simp only[aE,Act.put];gi_wp2;exact⟨_,by simp[aH],rfl,br _ _⟩
     |11,_=>
      simp at l;subst l;have zd:j 10=_:=Zq C 10;simp only[aE,Act.put];rw[zd];gi_wp2;exact⟨_,by simp[aH,zd],⟨w'.heap.size,rfl,m.size,wnq w' _⟩,aB (br _ _) _⟩
     |q+12,h=>exact absurd h (by omega)
    case free=>
     intro W o j w' t L S l ht qm O C;obtain rfl:W=0:=by simpa[YN]using S
     simp at l;subst l;clear O;simp only[aE,Act.put];gi_wp2
     first
      |exact⟨.pointer (some ⟨P,0,none⟩),by simp[aH],rfl,rfl⟩
      |exact⟨.pointer (some ⟨P,0,none⟩),by simp[aH],rfl⟩
    case g0=>
     intro j w' m I;exact⟨m,I 5 (by decide) rfl,I 9 (by decide) rfl,I 11 (by decide) rfl⟩
    case gf=>
     intro t j w' W v S O;obtain rfl:W=0:=by simpa[YN]using S
     exact O
    case store=>
     intro t o j w' xz qa l O C;obtain rfl:t=12:=by omega
     simp at l;subst l;obtain⟨m,d5,d9,V,yt,hVz,qd⟩:aF w5 w'/\j 5=.slice b.ha b.hl.length b.hc/\j 9=.int .i64 (i:Int)/\∃V,j 11=.slice (some ⟨V,0,none⟩) 1 1/\w5.heap.size<=V/\w'.heap[V]?=some (.cells #[.string nm,.slice a D.length c,.slice none 0 0] 90):=O;simp only[aE,Act.put];rw[d5,d9,yt];gi_wp2_with fail;refine⟨trivial,rfl,?_⟩
     refine(cw.2 (KY z b.hl b.ha b.hc i V ⟨nm,a,D,c,none,[],0⟩ w' (xk.oQ w' m) J.oQ.a.c hi qj qd (λe=>by
      rcases J.oQ.a.h with⟨N,_⟩|⟨g',zv,N,_,_,f',M,_⟩;·simp only[Value.slice.injEq]at N;rw[N.1]at e;cases e
      ·simp only[Value.slice.injEq]at N;rw[N.1]at e;simp at e;have:=M.lt;have:=N5.size;omega) (by have:=m.size;have:=N5.size;omega))).mono ?_
     rintro e w6 ⟨a',Y,rfl,xe,qe,H⟩;have HF:Hid (∃w0 a0 c0,aF w5 w0/\Value.slice a' (b.hl.length+1) Y=.slice a0 (b.hl.length+1) c0/\bQ 90 3 Hx.cells w6 z (.slice a0 (b.hl.length+1) c0) (b.hl.take i++⟨nm,a,D,c,none,[],0⟩::b.hl.drop i)/\c0<=maxLen/\aT (λq=>b.ha.map Addr.block=some q) w0 w6):=⟨w',a',Y,m,rfl,xe,qe,H⟩;clear xe H;gi_wp2;exact⟨_,by simp[aH,d5,d9,yt],HF.oQ⟩
    case fin=>
     intro j w7 O I;have d0:j 0=_:=I 0 (by decide) rfl;obtain⟨w6,a',Y,H,ze,xf,qg,zb⟩:∃w6 a' Y,aF w5 w6/\j 12=.slice a' (b.hl.length+1) Y/\bQ 90 3 Hx.cells w7 z (.slice a' (b.hl.length+1) Y) (b.hl.take i++⟨nm,a,D,c,none,[],0⟩::b.hl.drop i)/\Y<=maxLen/\aT (λq=>b.ha.map Addr.block=some q) w6 w7:=O
     have R:∀q,b.ha.map Addr.block=some q->q<w.heap.size/\q≠P/\z<=q/\∃n f,w.rowIs q 90 n f:=λq s=>by
      rcases J.oQ.a.h with⟨N,_⟩|⟨g',zv,N,qo,_,f',M,_⟩;·simp only[Value.slice.injEq]at N;rw[N.1]at s;cases s
      ·simp only[Value.slice.injEq]at N;rw[N.1]at s;simp at s;subst s;refine⟨M.lt,λe=>?_,qo,_,_,M⟩;subst e;obtain⟨zt,A,_⟩:=M;rw[J.oQ.p]at A;cases A
     have N6:=aC N5 H;have hs6:=H.size;have zr:Hid (w7.heap[P]?=some (NE b nm i false)):=bE (bJ yc.oQ H) zb (λe=>(R P e).2.1 rfl);have xm:Hid (w7.heap[B]?=some (iR d iw k)):=bE (bJ yk.oQ H) zb (λe=>by have:=(R B e).1;omega);have yq:Hid (w7.heap[w.heap.size+1]?=some (iR 0 0 0)):=bE (bJ yp.oQ H) zb (λe=>by have:=(R _ e).1;omega);have hPlt:P<w.heap.size:=(bU J.oQ.p);have hs7:=zb.size;have P8:=aO zr.oQ 2 (.slice a' (b.hl.length+1) Y);have b8:aT (λq=>q=P) w7 (w7.setCell ⟨P,2,none⟩ (.slice a' (b.hl.length+1) Y)):=(aT.refl (λq=>q=P) w7).set (g:=P) rfl _ _;have B8:=bE xm.oQ b8 (λe=>by have e':B=P:=e;omega);have R8:=bE yq.oQ b8 (λe=>by have e':w.heap.size+1=P:=e;omega);have q2:w7.cell? ⟨P,2,none⟩=some (.slice b.ha b.hl.length b.hc):=aJ zr.oQ rfl;have qf:=iQ zr.oQ;clear p0 p1 p2 p3 p4 p5 y0 y1 y2 I;simp only[lds,List.drop_zero,aE,Act.put];rw[d0,ze];clear d0 ze;generalize j 1=u1;generalize j 2=u2;generalize j 3=u3;generalize j 4=u4;generalize j 5=u5;generalize j 6=u6;generalize j 7=u7;generalize j 8=u8;generalize j 9=u9;generalize j 10=u10;generalize j 11=u11;obtain⟨w8,qn⟩:=cK (w7.setCell ⟨P,2,none⟩ (.slice a' (b.hl.length+1) Y));rw[qn]at P8 b8 B8 R8;have hs8:=b8.size;obtain⟨z0,z1,z2⟩:=aM B8;obtain⟨r0,r1,r2⟩:=aM R8;have rf:=iQ R8;have xr:=aG P8
     have ym:Hid (∀w9,aT (λq=>q=w.heap.size+1) w8 w9->kR z P w9 ⟨b.now,b.fa,b.fl,b.fc,a',b.hl.take i++⟨nm,a,D,c,none,[],0⟩::b.hl.drop i,Y⟩ nm i false/\aT (λq=>z<=q) w w9):=λw9 xb=>by
      have zx:(b.hl.take i++(⟨nm,a,D,c,none,[],0⟩:Hx)::b.hl.drop i).length=b.hl.length+1:=by simp;omega
      have qc:P≠w.heap.size+1:=by omega
      have yw:aT (λq=>q=P∨q=w.heap.size+1) w7 w9:=(b8.wide (λq s=>.inl s)).trans (xb.wide (λq s=>.inr s));have yv:aT (λq=>b.ha.map Addr.block=some q∨q=P∨q=w.heap.size+1) w6 w9:=(zb.wide (λq s=>.inl s)).trans (yw.wide (λq s=>.inr s))
      have zg:aT (λq=>w.heap.size<=q∨b.ha.map Addr.block=some q∨q=P) w w9:=((aT.below N6).trans (yv.wide (λq s=>by
       rcases s with s|s|s;·exact .inr (.inl s)
       ·exact .inr (.inr s)
       ·exact .inl (by rw[s];omega))))
      have zz:∀q n f t,w.rowIs q t n f->t≠90->t≠178->¬(w.heap.size<=q∨b.ha.map Addr.block=some q∨q=P):=λq n f t F h1 h2 s=>by
       rcases s with s|s|s;·have:=F.lt;omega
       ·obtain⟨_,_,_,n',f',M⟩:=R q s;exact h1 (kH F M)
       ·subst s;obtain⟨zt,A,_⟩:=F;rw[J.oQ.p]at A;cases A;exact h2 rfl
      have yy:∀n f t,w7.rowIs P t n f->t≠178->False:=λn f t F h1=>by
       obtain⟨zt,A,_⟩:=F;rw[zr.oQ]at A;cases A;exact h1 rfl
      have yz:∀n f t,w7.rowIs (w.heap.size+1) t n f->t≠80->False:=λn f t F h1=>by
       obtain⟨zt,A,_⟩:=F;rw[yq.oQ]at A;cases A;exact h1 rfl
      have U:aP w9 w3.heap.size (.slice a D.length c) D:=by
       have h6:=zo.oQ.zL H;have qh:∀u,a=some u->w3.heap.size<=u.block:=λu e=>h6.blkGe (q:=u.block) (by rw[h6.adr,e];rfl)
       exact aP.but h6 yv (λu e T=>by
        have:=qh u e;rcases T with T|T|T;·have:=(R _ T).1;omega
        ·omega
        ·omega)
      refine⟨⟨?_,⟨J.oQ.a.f.butRow zg (λq n f _ F=>zz q n f _ F (by decide) (by decide)),?_,λy hy=>?_,?_,qg,J.oQ.a.cf⟩,J.oQ.zp⟩,zg.wide (λq s=>?_)⟩
      ·show w9.heap[P]?=some (.cells #[.int .i64 b.now,.slice b.fa b.fl.length b.fc,.slice a' (b.hl.take i++(⟨nm,a,D,c,none,[],0⟩:Hx)::b.hl.drop i).length Y,.string nm,.int .i64 (i:Int),.bool false] 178);rw[zx];exact bE xr.oQ xb qc
      ·show bQ _ _ _ _ _ (.slice a' (b.hl.take i++(⟨nm,a,D,c,none,[],0⟩:Hx)::b.hl.drop i).length Y) _;rw[zx]
       exact xf.butRow yw (λq n f _ F s=>by
        rcases s with rfl|rfl;·exact yy _ _ _ F (by decide)
        ·exact yz _ _ _ F (by decide))
      ·have xd:y∈b.hl∨y=⟨nm,a,D,c,none,[],0⟩:=by
        rcases lma.1 hy with h|h;·exact .inl (List.mem_of_mem_take h)
        ·rcases List.mem_cons.1 h with h|h;·exact .inr h
         ·exact .inl (List.mem_of_mem_drop h)
       rcases xd with h|rfl
       ·exact(J.oQ.a.t y h).but zg (λq s=>by
         obtain⟨n,f,F⟩:=(J.oQ.a.t y h).bs_row q s;exact zz q n f _ F (by decide) (by decide))
       ·exact⟨U.weak (by omega),.inl ⟨rfl,rfl⟩⟩
      ·have C:=J.oQ.a.d;rw[←List.take_append_drop i b.hl,List.flatMap_append]at C;have yi:=List.nodup_append.1 C
       have zy:∀q∈(⟨nm,a,D,c,none,[],0⟩:Hx).bs,w3.heap.size<=q:=λq s=>by
        cases ha2:a with
        |none=>simp[Hx.bs,ha2]at s
        |some u=>
         simp[Hx.bs,ha2]at s;subst s;exact U.blkGe (q:=u.block) (by rw[U.adr,ha2];rfl)
       have Z:∀y∈b.hl,∀q∈y.bs,q<w.heap.size:=λy hy q s=>((J.oQ.a.t y hy).bs_in q s).2;rw[List.flatMap_append,List.flatMap_cons,List.nodup_append,List.nodup_append];refine⟨yi.1,⟨by simp only[Hx.bs,Option.map_none,Option.toList_none,List.append_nil];exact gN _,yi.2.1,λq s r F e=>?_⟩,λq s r F e=>?_⟩
       ·subst e;obtain⟨y,hy,zm⟩:=List.mem_flatMap.1 F;have h1:=Z y (List.mem_of_mem_drop hy) q zm;have h2:=zy q s;omega
       ·subst e;obtain⟨y,hy,zm⟩:=List.mem_flatMap.1 s;have h1:=Z y (List.mem_of_mem_take hy) q zm;rcases lma.1 F with F|F
        ·have h2:=zy q F;omega
        ·exact yi.2.2 q s q F rfl
      ·rcases s with s|s|s;·show z<=q;omega
       ·exact(R q s).2.2.1
       ·rw[s];exact J.oQ.zp
     clear B8 R8 P8 b8 H zb xf N6 R;gi_wp2_with fail;go_wp2_with fail;have HL:l3 b nm i false x=b.hl.take i++GJ nm x ⟨d,iw,k⟩::b.hl.drop i:=by unfold l3;rw[yb.oQ,yl.oQ];rfl
     have HV:gX b false x=fW d iw k:=by unfold gX;rw[yb.oQ,yl.oQ];rfl
     have zw:=ym.oQ _ (zn w8 (.int .i64 d) (.int .i64 iw) (.int .i64 k))
     exact bpr (v:=.tuple #[fW d iw k,pT 0]) (by simp[results,Tryz.results102,go_sem,r0,r1,r2];rfl) rfl ⟨⟨b.now,b.fa,b.fl,b.fc,a',b.hl.take i++⟨nm,a,D,c,none,[],0⟩::b.hl.drop i,Y⟩,by rw[yb.oQ,HV],rfl,rfl,by
      rw[HL];exact OS _ _ ⟨rfl,yr.oQ,rfl⟩,zw.1,zw.2⟩
theorem aT.low {T:Nat}{w w':World}(h:aT (λq=>q=T∨w.heap.size<=q) w w'):aT (λq=>q=T) w w':=⟨h.os,h.tape,h.output,h.size,λk a b=>h.block k a (λe=>e.elim b (λe=>by omega))⟩
theorem j9.but {S:Nat->Prop}{w w':World}(h:j9 w)(a:aT S w w')(b:¬S 3):j9 w':=a.cell (p:=⟨3,0,none⟩) b h
def J4 (k:Nat)(fr:Array Value)(T:Nat)(O:Bk->Nat->Bool->Obj)(b:Bk)(nm:ByteArray)(R:Bk->Nat->Bool->Bk->Int->Prop)(w:World):Prop:=
 ∀(b':Bk) (i:Nat) (f:Bool) (P z:Nat) (W:World),aN b=true->kZ b nm b' i f->w.heap.size<=z->z<=W.heap.size->kR z P W b' nm i f->aF w W->
  aY k (#[.pointer (some ⟨P,0,none⟩)]++fr) W λe W'=>∃b'' c,e=.returned (pT c)/\R b' i f b'' c/\kR z P W' b'' nm i f/\aT (λq=>z<=q∨q=T) W W'/\W'.heap[T]?=some (O b' i f)
def TY (T:Nat)(O:Bk->Nat->Bool->Obj)(b:Bk)(nm:ByteArray)(R:Bk->Nat->Bool->Bk->Int->Prop)(w:World)(e:Ending)(w':World):Prop:=
 (aN b=false/\e=.returned (.tuple #[Bk.val ⟨0,none,[],0,none,[],0⟩,.int .i64 1])/\w'.heap[T]?=w.heap[T]?)∨
 (aN b=true/\∃(b':Bk) (i:Nat) (f:Bool) (b'':Bk) (c:Int),kZ b nm b' i f/\R b' i f b'' c/\e=.returned (.tuple #[b''.val,.int .i64 c])/\gY w.heap.size w' b''/\w'.heap[T]?=some (O b' i f))
theorem GO (v0:Value)(b:Bk)(nm:ByteArray)(R:Bk->Nat->Bool->Bk->Int->Prop)(w:World)(T:Nat)(O:Bk->Nat->Bool->Obj)(zh:T≠3)(zj:T<w.heap.size)(hC:J4 101 #[v0,.pointer (some ⟨T,0,none⟩)] T O b nm R w)(hL:j9 w)(hf:Xs 3 Fx.cells w b.fa b.fl)(V:b.fl.length<=1048576)(zl:b.fl.length<=b.fc)(S:b.fc<=9223372036854775807)(zp:∀f∈b.fl,f.n.size<=9223372036854775807)(hh:Xs 3 Hx.cells w b.ha b.hl)(zn:b.hl.length<=1048576)(hg:∀h∈b.hl,h.In w/\h.Fit):
 aY 100 #[b.val,.string nm,.func (.func 101) #[] #[v0,.pointer (some ⟨T,0,none⟩)]] w λe w'=>TY T O b nm R w e w'/\aT (λq=>q=T) w w':=by
 have r:aF w ((w.alloc b.obj).alloc (.cells #[.int .i64 0,.slice none 0 0,.slice none 0 0] 30)):=aB (aB (br _ _) _) _;have A0:=(halq (w.alloc b.obj) (.cells #[.int .i64 0,.slice none 0 0,.slice none 0 0] 30) w.heap.size (by simp)).trans (wnq w b.obj);have L:=wnq (w.alloc b.obj) (.cells #[.int .i64 0,.slice none 0 0,.slice none 0 0] 30);rw[wsa]at L;go_enter Tryz.func100,Tryz.ntmps100;go_wp2_with fail;obtain⟨W0,Q⟩:=cK ((w.alloc b.obj).alloc (.cells #[.int .i64 0,.slice none 0 0,.slice none 0 0] 30));rw[Q]at r A0 L ⊢;have hz1:w.heap.size+1<W0.heap.size:=(bU L);clear Q;refine(kO b W0 (hf.zL r) V zl S zp (hh.zL r) zn (λh m=>⟨(hg h m).1.zL r,(hg h m).2⟩)).mono ?_;rintro e w1 ⟨rfl,u⟩;have D:=aC r u;have A1:=bJ A0 u;have R1:=bJ L u;have hs1:=u.size;clear A0 L u r;cases hbk:aN b with
 |false=>
  have y:Hid _:=hbk;have t:Hid _:=R1;clear A1 R1 hbk;go_wp2_with fail;refine(qF 1 w1 (hL.zL D)).mono ?_;rintro e s ⟨rfl,l⟩;have N2:=aC D l;have R2:=bJ t.oQ l;obtain⟨r0,r1,r2⟩:=aM R2;have rf:=iQ R2;clear R2 t l;go_wp2_with fail;have N:=((N2.setCell (p:=⟨w.heap.size+1,0,none⟩) (by show w.heap.size<=w.heap.size+1;omega) (.int .i64 0)).setCell (p:=⟨w.heap.size+1,1,none⟩) (by show w.heap.size<=w.heap.size+1;omega) (.slice none 0 0)).setCell (p:=⟨w.heap.size+1,2,none⟩) (by show w.heap.size<=w.heap.size+1;omega) (.slice none 0 0);exact bpr (v:=.tuple #[Bk.val ⟨0,none,[],0,none,[],0⟩,.int .i64 1]) (by simp[results,Tryz.results100,go_sem,r0,r1,r2]) rfl ⟨.inl ⟨y.oQ,rfl,N.block T zj⟩,aT.below N⟩
 |true=>
  have y:Hid _:=hbk;obtain⟨k0,k1,k2⟩:=aM A1
  have U:b.hl.length<=64:=by
   have:=hbk;simp only[aN,gA,bat,dte]at this;omega
  have B:kK Hx.n b.hl=true:=by
   have:=hbk;simp only[aN,dN,bV,bat]at this;exact this.2.2.2.1.2
  have t:Hid _:=R1;clear A1 R1 hbk;go_wp2_with fail;refine(oW b nm w1 (hf.zL D) V (hh.zL D) U (λh m=>⟨(hg h m).1.zL D,(hg h m).2⟩) B).mono ?_;rintro e s ⟨⟨b',i,f,rfl,W,hA⟩,l⟩;have z:aF s (s.alloc (NE b' nm i f)):=aB (br _ _) _;have Z:=wnq s (NE b' nm i f);have Y:=aC (aC D l) z;have C:Hid _:=bJ (bJ t.oQ l) z;have E:=hA.zL z;have zo:=l.size;obtain⟨w3,X⟩:=cK (s.alloc (NE b' nm i f));rw[X]at Z Y C E;have hs3:s.heap.size<w3.heap.size:=(bU Z);have HI:Hid (kR w1.heap.size s.heap.size w3 b' nm i f):=⟨Z,E,zo⟩;have J:Hid _:=W;clear k0 k1 k2 hA E Z z l D t W B;go_wp2_with fail;clear X;refine(hC b' i f s.heap.size w1.heap.size w3 y.oQ J.oQ (by omega) (by omega) HI.oQ Y).mono ?_;rintro e w4 ⟨d,c,rfl,hR,M,F,P⟩;have N4:aT (λq=>q=T) w w4:=aT.low ((aT.below Y).trans (F.wide (λq x=>x.elim (λx=>.inr (by omega)) (λx=>.inl x))));have zc:Hid _:=P;have zf:j9 w4:=hL.but N4 (λe=>zh e.symm);clear P;have K:Hid _:=bE C.oQ F (λx=>by rcases x with x|x<;>omega);have I:Hid _:=M;have zb:Hid _:=hR;clear hC HI C Y M F hR;go_wp2_with fail;refine pG 4 [some 21,some 22,some 23,some 24] (D5 s.heap.size d c) (λ_ _ _ _ h _=>h) ?step ?fin
  case step=>
   intro i o G w' zm H A hd;match i,zm with
   |0,_|2,_=>
    simp at H;subst H;simp only[aE,Act.put];gi_wp2;exact⟨_,by simp[aH],rfl,br _ _⟩
   |1,_=>
    simp at H;subst H;have d0:G 0=_:=Zq hd 0;have P5:=bJ I.oQ.p A;have k0:w'.cell? ⟨s.heap.size,0,none⟩=some (.int .i64 d.now):=aJ P5 rfl;have k1:w'.cell? ⟨s.heap.size,1,none⟩=some (.slice d.fa d.fl.length d.fc):=aJ P5 rfl;have k2:w'.cell? ⟨s.heap.size,2,none⟩=some (.slice d.ha d.hl.length d.hc):=aJ P5 rfl;clear P5;simp only[aE,Act.put];rw[d0];gi_wp2;exact⟨_,by simp[aH,d0],rfl,br _ _⟩
   |3,_=>
    simp at H;subst H;have d2:G 2=_:=Zq hd 2;simp only[aE,Act.put];rw[d2];gi_wp2_with fail;refine⟨trivial,rfl,?_⟩;refine(cw.2 (vG c w' (zf.zL A))).mono ?_;rintro e w5 ⟨rfl,zk⟩;gi_wp2;exact⟨_,by simp[aH,d2],rfl,zk⟩
   |j+4,h=>exact absurd h (by omega)
  case fin=>
   intro G w5 A hp;have d1:G 1=_:=hp 1 (by decide);have d3:G 3=_:=hp 3 (by decide);have N5:=N4.trans (aT.below A);have zd:Hid _:=bJ zc.oQ A;have R5:=bJ K.oQ A;have za:Hid _:=I.oQ.a.zL A;obtain⟨r0,r1,r2⟩:=aM R5;have rf:=iQ R5;clear hp R5 K A N4;simp only[lds,List.drop_zero,aE,Act.put];rw[d1,d3];clear d1 d3;generalize G 0=v0;generalize G 2=v2;gi_wp2_with fail;go_wp2_with fail;have hS:aT (λk=>k=w.heap.size+1) w5 (((w5.setCell ⟨w.heap.size+1,0,none⟩ (.int .i64 d.now)).setCell ⟨w.heap.size+1,1,none⟩ (.slice d.fa d.fl.length d.fc)).setCell ⟨w.heap.size+1,2,none⟩ (.slice d.ha d.hl.length d.hc)):=(((aT.refl (λk=>k=w.heap.size+1) w5).set (g:=w.heap.size+1) rfl _ _).set (g:=w.heap.size+1) rfl _ _).set (g:=w.heap.size+1) rfl _ _;have ze:=(za.oQ.but hS (λk hk=>by rw[hk];omega)).weak (z':=w.heap.size) (by omega);have zg:=aT.low ((N5.wide (S':=λq=>q=T∨w.heap.size<=q) (λq x=>.inl x)).trans (hS.wide (λk hk=>.inr (by rw[hk];omega))));have zi:=bE zd.oQ hS (λe=>by have e':T=w.heap.size+1:=e;omega);exact bpr (v:=.tuple #[d.val,.int .i64 c]) (by simp[results,Tryz.results100,go_sem,r0,r1,r2]) rfl ⟨.inr ⟨y.oQ,b',i,f,d,c,J.oQ,zb.oQ,rfl,ze,zi⟩,zg⟩
def UO (b:Bk)(f:Bool)(x:Wx):Obj:=if iX b f x=0 then(match sA b x with|[]=>iR 0 0 0|c::_=>iR c.d c.i c.k)else iR 0 0 0
theorem J8 (b:Bk)(f:Bool)(x:Wx):∃d i k,gX b f x=fW d i k/\UO b f x=iR d i k:=by
 unfold gX UO;split
 ·cases sA b x with
  |nil=>exact⟨0,0,0,rfl,rfl⟩
  |cons c r=>exact⟨c.d,c.i,c.k,rfl,rfl⟩
 ·exact⟨0,0,0,rfl,rfl⟩
def XR (nm:ByteArray)(x:Wx)(b':Bk)(i:Nat)(f:Bool)(b'':Bk)(c:Int):Prop:=c=iX b' f x/\b''.now=b'.now/\b''.fl=b'.fl/\aU (l3 b' nm i f x) b''.hl
theorem gY.asks {z:Nat}{w:World}{b:Bk}(h:gY z w b)(c:b.fl.length<=1048576)(k:∀f∈b.fl,f.n.size<=9223372036854775807)(d:b.hl.length<=1048576)(a:∀h∈b.hl,h.Fit):iW w b:=
 ⟨h.ans.fs,c,by
  rcases h.f with⟨e,i⟩|⟨g,cap,e,_,j,_⟩;·rw[i];exact nz _
  ·simp only[Value.slice.injEq]at e;rw[e.2.2];exact j,by have:=h.cf;unfold maxLen at this;omega,k,h.ans.hs,d,λx hx=>⟨h.ans.inn x hx,a x hx⟩⟩
theorem CH (x:Wx)(X T:Nat)(b:Bk)(nm:ByteArray)(w:World)(hX:w.heap[X]?=some x.obj)(Q:w.heap[T]?=some (iR 0 0 0))(hx:iL w x)(H:b.fl.length<=1048576)(hs:∀f∈b.fl,f.n.size<=9223372036854775807)(F:∀h∈b.hl,h.Fit):
 J4 101 #[.pointer (some ⟨X,0,none⟩),.pointer (some ⟨T,0,none⟩)] T (λb' _ f=>UO b' f x) b nm (XR nm x) w:=by
 intro b' i f P z W o c hz I C D;have h16:=lS o;have L:=bJ hX D;obtain⟨q0,q1,q2,q3,q4,q5,q6,q7⟩:=gJ L;have hTw:T<w.heap.size:=(bU Q);have E:=bJ Q D;have hA:=C.a.asks (by rw[c.fl];exact H) (by rw[c.fl];exact hs) (by rw[c.lk.len];omega) (c.lk.fit F);have G:i<=b'.hl.length:=by rw[c.lk.len];exact c.at'.le
 have HBK:Hid _:=o;have V:Hid _:=C;obtain⟨d,J,k,S,R⟩:=J8 b' f x;have Z:=aG S;have Y:=aG R;clear o C L S R;show aY 101 #[.pointer (some ⟨P,0,none⟩),.pointer (some ⟨X,0,none⟩),.pointer (some ⟨T,0,none⟩)] W _;go_enter Tryz.func101,Tryz.ntmps101;go_wp2_with fail;refine(PK z P b' nm i f x W V.oQ I hA (hx.zL D) (by rw[c.lk.len];omega) G).mono ?_;rintro e U ⟨j,rfl,M,N,O,l,m⟩;rw[Z.oQ];have t:=bE E m (λe=>by have e':z<=T:=e;omega);obtain⟨t0,t1,t2⟩:=aM t;have tf:=iQ t;have K:=aO (aO (aO t 0 (.int .i64 d)) 1 (.int .i64 J)) 2 (.int .i64 k);have u:=(((aT.refl (λq=>q=T) U).set (g:=T) rfl 0 (.int .i64 d)).set (g:=T) rfl 1 (.int .i64 J)).set (g:=T) rfl 2 (.int .i64 k);have r:kR z P (((U.setCell ⟨T,0,none⟩ (.int .i64 d)).setCell ⟨T,1,none⟩ (.int .i64 J)).setCell ⟨T,2,none⟩ (.int .i64 k)) j nm i f:=⟨bE l.p u (λe=>by have e':P=T:=e;have:=l.zp;omega),l.a.but u (λq s=>by have hq':q=T:=s;omega),l.zp⟩;have y:Hid _:=r;have A:Hid (j.now=b'.now/\j.fl=b'.fl/\aU (l3 b' nm i f x) j.hl):=⟨M,N,O⟩;have v:Hid _:=(m.wide (S':=λq=>z<=q∨q=T) (λq s=>.inl s)).trans (u.wide (λq s=>.inr s));have B:Hid _:=K;clear t K u l r m M N O;go_wp2_with fail;go_ret;exact⟨j,iX b' f x,rfl,⟨rfl,A.oQ.1,A.oQ.2.1,A.oQ.2.2⟩,y.oQ,v.oQ,by rw[Y.oQ];exact B.oQ⟩
structure K3 (bv cv iv:Value)(W2 W3 W4:World)(L:Nat->Prop)(vs:Nat->Value)(w':World):Prop where
 v0:L 0->vs 0=bv
 v1:L 1->vs 1=cv
 v2:L 2->vs 2=iv
 v5:L 5->vs 5=iv
 w4:L 4->w'=W4
 w3:L 3->¬L 4->w'=W3
 w0:¬L 3->w'=W2
theorem K3.ext {bv cv iv:Value}{W2 W3 W4:World}(L a:Nat->Prop)(vs:Nat->Value)(w':World)(h:∀j,L j↔a j)(k:K3 bv cv iv W2 W3 W4 L vs w'):K3 bv cv iv W2 W3 W4 a vs w':=
 ⟨λq=>k.v0 ((h 0).2 q),λq=>k.v1 ((h 1).2 q),λq=>k.v2 ((h 2).2 q),λq=>k.v5 ((h 5).2 q),λq=>k.w4 ((h 4).2 q),λq r=>k.w3 ((h 3).2 q) (λs=>r ((h 4).1 s)),λq=>k.w0 (λs=>q ((h 3).1 s))⟩
theorem K3.cases {bv cv iv:Value}{W2 W3 W4:World}{L:Nat->Prop}{vs:Nat->Value}{w':World}(k:K3 bv cv iv W2 W3 W4 L vs w'):w'=W2∨w'=W3∨w'=W4:=by
 by_cases a:L 3
 ·by_cases b:L 4;·exact .inr (.inr (k.w4 b))
  ·exact .inr (.inl (k.w3 a b))
 ·exact .inl (k.w0 a)
section
variable {bv cv iv:Value}{W2 W3 W4:World}{L:Nat->Prop}{vs:Nat->Value}{w':World}{v:Value}
theorem K3.add0 (k:K3 bv cv iv W2 W3 W4 L vs w')(a:v=bv):K3 bv cv iv W2 W3 W4 (λj=>L j∨j=0) (aH vs 0 v) w':=
 ⟨λ_=>a,λh=>k.v1 (iF h),λh=>k.v2 (iF h),λh=>k.v5 (iF h),λh=>k.w4 (iF h),λh r=>k.w3 (iF h) (λs=>r (.inl s)),λh=>k.w0 (λs=>h (.inl s))⟩
theorem K3.add1 (k:K3 bv cv iv W2 W3 W4 L vs w')(a:v=cv):K3 bv cv iv W2 W3 W4 (λj=>L j∨j=1) (aH vs 1 v) w':=
 ⟨λh=>k.v0 (iF h),λ_=>a,λh=>k.v2 (iF h),λh=>k.v5 (iF h),λh=>k.w4 (iF h),λh r=>k.w3 (iF h) (λs=>r (.inl s)),λh=>k.w0 (λs=>h (.inl s))⟩
theorem K3.add2 (k:K3 bv cv iv W2 W3 W4 L vs w')(a:v=iv):K3 bv cv iv W2 W3 W4 (λj=>L j∨j=2) (aH vs 2 v) w':=
 ⟨λh=>k.v0 (iF h),λh=>k.v1 (iF h),λ_=>a,λh=>k.v5 (iF h),λh=>k.w4 (iF h),λh r=>k.w3 (iF h) (λs=>r (.inl s)),λh=>k.w0 (λs=>h (.inl s))⟩
theorem K3.add3 (k:K3 bv cv iv W2 W3 W4 L vs w')(a:¬L 4):K3 bv cv iv W2 W3 W4 (λj=>L j∨j=3) (aH vs 3 v) W3:=
 ⟨λh=>k.v0 (iF h),λh=>k.v1 (iF h),λh=>k.v2 (iF h),λh=>k.v5 (iF h),λh=>absurd (iF h) a,λ_ _=>rfl,λh=>absurd (.inr rfl) h⟩
theorem K3.add4 (k:K3 bv cv iv W2 W3 W4 L vs w')(a:L 3):K3 bv cv iv W2 W3 W4 (λj=>L j∨j=4) (aH vs 4 v) W4:=
 ⟨λh=>k.v0 (iF h),λh=>k.v1 (iF h),λh=>k.v2 (iF h),λh=>k.v5 (iF h),λ_=>rfl,λ_ h=>absurd (.inr rfl) h,λh=>absurd (.inl a) h⟩
theorem K3.add5 (k:K3 bv cv iv W2 W3 W4 L vs w')(a:v=iv):K3 bv cv iv W2 W3 W4 (λj=>L j∨j=5) (aH vs 5 v) w':=
 ⟨λh=>k.v0 (iF h),λh=>k.v1 (iF h),λh=>k.v2 (iF h),λ_=>a,λh=>k.w4 (iF h),λh r=>k.w3 (iF h) (λs=>r (.inl s)),λh=>k.w0 (λs=>h (.inl s))⟩
end
def YO (b:Bk)(x:Wx)(z:Nat)(e:Ending)(w':World):Prop:=
 (aN b=false/\e=.returned (.tuple #[Bk.val ⟨0,none,[],0,none,[],0⟩,fW 0 0 0,.int .i64 1]))∨
 (aN b=true/\∃(b':Bk) (i:Nat) (f:Bool) (b'':Bk) (c:Int),kZ b x.n b' i f/\XR x.n x b' i f b'' c/\e=.returned (.tuple #[b''.val,gX b' f x,.int .i64 c])/\gY z w' b'')
theorem GA (b:Bk)(x:Wx)(w:World)(hw0:3<w.heap.size)(hL:j9 w)(hf:Xs 3 Fx.cells w b.fa b.fl)(zx:b.fl.length<=1048576)(yd:b.fl.length<=b.fc)(zw:b.fc<=9223372036854775807)(zz:∀f∈b.fl,f.n.size<=9223372036854775807)(hh:Xs 3 Hx.cells w b.ha b.hl)(ye:b.hl.length<=1048576)(hg:∀h∈b.hl,h.In w/\h.Fit)(hx:iL w x):
 aY 60 #[b.val,x.val] w λe w'=>YO b x w.heap.size e w'/\aF w w':=by
 have N1:aF w (w.alloc b.obj):=aB (br _ _) _;have A1:=wnq w b.obj;obtain⟨U1,zf⟩:∃U,w.alloc b.obj=U:=⟨_,rfl⟩;have z1:U1.heap.size=w.heap.size+1:=by rw[←zf];simp
 rw[zf]at N1 A1;have M2:aF U1 (U1.alloc x.obj):=aB (br _ _) _;have X2:=wnq U1 x.obj;obtain⟨U2,zg⟩:∃U,U1.alloc x.obj=U:=⟨_,rfl⟩;have z2:U2.heap.size=w.heap.size+2:=by rw[←zg];simp[z1]
 rw[zg]at M2 X2;have M3:aF U2 (U2.alloc (.cells #[.int .i64 0,.slice none 0 0,.slice none 0 0] 30)):=aB (br _ _) _;have R3:=wnq U2 (.cells #[.int .i64 0,.slice none 0 0,.slice none 0 0] 30);obtain⟨U3,zh⟩:∃U,U2.alloc (.cells #[.int .i64 0,.slice none 0 0,.slice none 0 0] 30)=U:=⟨_,rfl⟩;have z3:U3.heap.size=w.heap.size+3:=by rw[←zh];simp[z2]
 rw[zh]at M3 R3;have M4:aF U3 (U3.alloc (iR 0 0 0)):=aB (br _ _) _;have Q4:=wnq U3 (iR 0 0 0);obtain⟨U4,zi⟩:∃U,U3.alloc (iR 0 0 0)=U:=⟨_,rfl⟩;have z4:U4.heap.size=w.heap.size+4:=by rw[←zi];simp[z3]
 rw[zi]at M4 Q4;have M5:aF U4 (U4.alloc (iR 0 0 0)):=aB (br _ _) _;have T5:=wnq U4 (iR 0 0 0);obtain⟨U5,zj⟩:∃U,U4.alloc (iR 0 0 0)=U:=⟨_,rfl⟩;have z5:U5.heap.size=w.heap.size+5:=by rw[←zj];simp[z4]
 rw[zj]at M5 T5;have N5:aF w U5:=aC (aC (aC (aC N1 M2) M3) M4) M5;have A5:=bJ (bJ (bJ (bJ A1 M2) M3) M4) M5;have X5:=bJ (bJ (bJ X2 M3) M4) M5;have R5:=bJ (bJ R3 M4) M5;have Q5:=bJ Q4 M5;rw[z1]at X5;rw[z2]at R5;rw[z3]at Q5;rw[z4]at T5;obtain⟨k0,k1,k2⟩:=aM A5;obtain⟨q0,q1,q2,q3,q4,q5,q6,q7⟩:=gJ X5;have zt:Hid _:=R5;have zr:Hid _:=Q5;have zv:Hid _:=X5;have zu:Hid _:=T5;clear N1 M2 M3 M4 M5 A1 X2 R3 Q4 A5 X5 R5 Q5 T5;go_enter Tryz.func60,Tryz.ntmps60;go_wp2_with fail;clear zf zg zh zi zj;refine(GO (.pointer (some ⟨w.heap.size+1,0,none⟩)) b x.n (XR x.n x) U5 (w.heap.size+4) (λb' _ f=>UO b' f x) (by omega) (by omega) (CH x (w.heap.size+1) (w.heap.size+4) b x.n U5 zv.oQ zu.oQ (hx.zL N5) zx zz (λh m=>(hg h m).2)) (hL.zL N5) (hf.zL N5) zx yd zw zz (hh.zL N5) ye (λh m=>⟨(hg h m).1.zL N5,(hg h m).2⟩)).mono ?_;rintro e l ⟨hC,Q⟩;have hs1:=Q.size;have zs:Hid _:=bE zt.oQ Q (by show¬(w.heap.size+2=w.heap.size+4);omega);have zq:Hid _:=bE zr.oQ Q (by show¬(w.heap.size+3=w.heap.size+4);omega);have zp:Hid (aT (λq=>w.heap.size<=q) w l):=(aT.below N5).trans (Q.wide (λq r=>by have hq':q=w.heap.size+4:=r;show w.heap.size<=q;omega));clear k0 k1 k2 q0 q1 q2 q3 q4 q5 q6 q7 zt zr zv;rcases hC with⟨zb,rfl,Z⟩|⟨zb,b',i,f,a,c,zy,hR,rfl,hA,Z⟩
 ·have zd:Hid _:=zb;have T1:=Z.trans zu.oQ;obtain⟨j,zm⟩:=bP (⟨0,none,[],0,none,[],0⟩:Bk);have yb:=aG zm;rw[←zm];clear zb Z Q zm;have u:aF l (l.alloc j.obj):=aB (br _ _) _;have V:=wnq l j.obj;have I:=bJ zs.oQ u;have P:=bJ zq.oQ u;have X:=bJ T1 u;have S:=aG (zp.oQ.trans (aT.below u));obtain⟨W2,za⟩:=cK (l.alloc j.obj);rw[za]at u V I P X S;have l0:W2.drew.cell? ⟨l.heap.size,0,none⟩=some (.int .i64 j.now):=aJ (w:=W2.drew) V rfl;have l1:W2.drew.cell? ⟨l.heap.size,1,none⟩=some (.slice j.fa j.fl.length j.fc):=aJ (w:=W2.drew) V rfl;have l2:W2.drew.cell? ⟨l.heap.size,2,none⟩=some (.slice j.ha j.hl.length j.hc):=aJ (w:=W2.drew) V rfl;have t0:W2.drew.cell? ⟨w.heap.size+4,0,none⟩=some (.int .i64 0):=aJ (w:=W2.drew) X rfl;have t1:W2.drew.cell? ⟨w.heap.size+4,1,none⟩=some (.int .i64 0):=aJ (w:=W2.drew) X rfl;have t2:W2.drew.cell? ⟨w.heap.size+4,2,none⟩=some (.int .i64 0):=aJ (w:=W2.drew) X rfl;have q0:W2.drew.cell? ⟨w.heap.size+3,0,none⟩=some (.int .i64 0):=aJ (w:=W2.drew) P rfl;have q1:W2.drew.cell? ⟨w.heap.size+3,1,none⟩=some (.int .i64 0):=aJ (w:=W2.drew) P rfl;have q2:W2.drew.cell? ⟨w.heap.size+3,2,none⟩=some (.int .i64 0):=aJ (w:=W2.drew) P rfl;have r0:W2.drew.cell? ⟨w.heap.size+2,0,none⟩=some (.int .i64 0):=aJ (w:=W2.drew) I rfl;have r1:W2.drew.cell? ⟨w.heap.size+2,1,none⟩=some (.slice none 0 0):=aJ (w:=W2.drew) I rfl;have r2:W2.drew.cell? ⟨w.heap.size+2,2,none⟩=some (.slice none 0 0):=aJ (w:=W2.drew) I rfl;have rf:∀i,W2.drew.frozen? ⟨w.heap.size+2,i,none⟩=false:=λi=>by have:W2.drew.heap[w.heap.size+2]?=_:=I;simp[World.frozen?,this]
  have T:Hid (W2.drew.heap[w.heap.size+2]?=some (.cells #[.int .i64 0,.slice none 0 0,.slice none 0 0] 30)):=I;have G:Hid (W2.drew.heap[w.heap.size+3]?=some (iR 0 0 0)):=P;clear V I P X T1 u;obtain⟨K,y⟩:=cK W2.drew;rw[y]at l0 l1 l2 t0 t1 t2 q0 q1 q2 r0 r1 r2 T G;rw[y]at rf;have O:=aG y;clear y;go_wp2_with fail;clear za;have y:=O.oQ;have C:aT (λq=>q=w.heap.size+2) K (((K.setCell ⟨w.heap.size+2,0,none⟩ (.int .i64 j.now)).setCell ⟨w.heap.size+2,1,none⟩ (.slice j.fa j.fl.length j.fc)).setCell ⟨w.heap.size+2,2,none⟩ (.slice j.ha j.hl.length j.hc)):=(((aT.refl (λq=>q=w.heap.size+2) K).set (g:=w.heap.size+2) rfl _ _).set (g:=w.heap.size+2) rfl _ _).set (g:=w.heap.size+2) rfl _ _;have J:=aO (aO (aO T.oQ 0 (.int .i64 j.now)) 1 (.slice j.fa j.fl.length j.fc)) 2 (.slice j.ha j.hl.length j.hc);obtain⟨W3,zk⟩:=cK (((K.setCell ⟨w.heap.size+2,0,none⟩ (.int .i64 j.now)).setCell ⟨w.heap.size+2,1,none⟩ (.slice j.fa j.fl.length j.fc)).setCell ⟨w.heap.size+2,2,none⟩ (.slice j.ha j.hl.length j.hc));rw[zk]at C J;have Q3:=bE G.oQ C (by show¬(w.heap.size+3=w.heap.size+2);omega);have H:=aO (aO (aO Q3 0 (.int .i64 0)) 1 (.int .i64 0)) 2 (.int .i64 0);have b4:aT (λq=>q=w.heap.size+3) W3 (((W3.setCell ⟨w.heap.size+3,0,none⟩ (.int .i64 0)).setCell ⟨w.heap.size+3,1,none⟩ (.int .i64 0)).setCell ⟨w.heap.size+3,2,none⟩ (.int .i64 0)):=(((aT.refl (λq=>q=w.heap.size+3) W3).set (g:=w.heap.size+3) rfl _ _).set (g:=w.heap.size+3) rfl _ _).set (g:=w.heap.size+3) rfl _ _;have o0:=C.cell (p:=⟨w.heap.size+3,0,none⟩) (by show¬(w.heap.size+3=w.heap.size+2);omega) q0;have o1:=C.cell (p:=⟨w.heap.size+3,1,none⟩) (by show¬(w.heap.size+3=w.heap.size+2);omega) q1;have o2:=C.cell (p:=⟨w.heap.size+3,2,none⟩) (by show¬(w.heap.size+3=w.heap.size+2);omega) q2;have oF:∀i,W3.frozen? ⟨w.heap.size+3,i,none⟩=false:=λi=>by simp[World.frozen?,bE G.oQ C (by show¬(w.heap.size+3=w.heap.size+2);omega)]
  obtain⟨W4,zl⟩:=cK (((W3.setCell ⟨w.heap.size+3,0,none⟩ (.int .i64 0)).setCell ⟨w.heap.size+3,1,none⟩ (.int .i64 0)).setCell ⟨w.heap.size+3,2,none⟩ (.int .i64 0));rw[zl]at b4 H;have W:=bE J b4 (by show¬(w.heap.size+2=w.heap.size+3);omega);obtain⟨e0,e1,e2⟩:=aM W;obtain⟨f0,f1,f2⟩:=aM H;have zc:Hid _:=(C.wide (S':=λq=>q=w.heap.size+2∨q=w.heap.size+3) (λq r=>.inl r)).trans (b4.wide (λq r=>.inr r));clear J Q3 H W
  have E:∀w',(w'=K∨w'=W3∨w'=W4)->aT (λq=>q=w.heap.size+2∨q=w.heap.size+3) K w':=λw' h=>by
   rcases h with rfl|rfl|rfl;·exact aT.refl _ _
   ·exact C.wide (λq r=>.inl r)
   ·exact(C.wide (λq r=>.inl r)).trans (b4.wide (λq r=>.inr r))
  have R:Hid _:=E;clear E;refine wpIn_wide.1 (gP (F:=Fence.wide) (n:=0) (by kernel_rfl) [some 18,some 19,some 20,none,none,some 6] (K3 j.val (fW 0 0 0) (.int .i64 1) K W3 W4) (by kernel_rfl) ?h0 K3.ext ?step ?fin);case h0=>exact⟨λh=>h.elim,λh=>h.elim,λh=>h.elim,λh=>h.elim,λh=>h.elim,λh=>h.elim,λ_=>y⟩
  case step=>
   intro L ii o vs w' t N D zn M;have hi:ii<6:=(lgs.1 t).1;have B:=M.cases;have s:=R.oQ w' B;have m0:=s.cell (p:=⟨l.heap.size,0,none⟩) (by show¬(l.heap.size=w.heap.size+2∨l.heap.size=w.heap.size+3);omega) l0;have m1:=s.cell (p:=⟨l.heap.size,1,none⟩) (by show¬(l.heap.size=w.heap.size+2∨l.heap.size=w.heap.size+3);omega) l1;have m2:=s.cell (p:=⟨l.heap.size,2,none⟩) (by show¬(l.heap.size=w.heap.size+2∨l.heap.size=w.heap.size+3);omega) l2;have n0:=s.cell (p:=⟨w.heap.size+4,0,none⟩) (by show¬(w.heap.size+4=w.heap.size+2∨w.heap.size+4=w.heap.size+3);omega) t0;have n1:=s.cell (p:=⟨w.heap.size+4,1,none⟩) (by show¬(w.heap.size+4=w.heap.size+2∨w.heap.size+4=w.heap.size+3);omega) t1;have n2:=s.cell (p:=⟨w.heap.size+4,2,none⟩) (by show¬(w.heap.size+4=w.heap.size+2∨w.heap.size+4=w.heap.size+3);omega) t2;have A:=aG M;clear s B M;match ii,hi with
   |0,_=>
    simp at t;subst t;simp only[aE,Act.put];gi_wp2;exact⟨j.val,by simp[aH],A.oQ.add0 rfl⟩
   |1,_=>
    simp at t;subst t;simp only[aE,Act.put];gi_wp2;exact⟨(fW 0 0 0),by simp[aH],A.oQ.add1 rfl⟩
   |2,_=>
    simp at t;subst t;simp only[aE,Act.put];gi_wp2;exact⟨.int .i64 1,by simp[aH],A.oQ.add2 rfl⟩
   |3,_=>
    simp at t;subst t;have d0:=A.oQ.v0 (Zq D 0);have z:=A.oQ.w0 N;have zo:¬L 4:=λh4=>N (zn 4 _ h4 rfl { on:=3,ground:=Ground.chain} (by simp) rfl);rw[z]at m0 m1 m2 n0 n1 n2 ⊢;simp only[aE,Act.put];rw[d0];gi_wp2_with fail;exact⟨undef,by simp[aH,d0],A.oQ.add3 zo⟩
   |4,_=>
    simp at t;subst t;have d1:=A.oQ.v1 (Zq D 1);have h3:L 3:=D { on:=3,ground:=Ground.chain} (by simp) rfl;have z:=A.oQ.w3 h3 N;rw[z]at m0 m1 m2 n0 n1 n2 ⊢;simp only[aE,Act.put];rw[d1];gi_wp2_with fail;exact⟨undef,by simp[aH,d1],A.oQ.add4 h3⟩
   |5,_=>
    simp at t;subst t;have d2:=A.oQ.v2 (Zq D 2);simp only[aE,Act.put];rw[d2];gi_wp2;exact⟨.int .i64 1,by simp[aH,d2],A.oQ.add5 rfl⟩
   |q+6,h=>exact absurd h (by omega)
  case fin=>
   intro L vs w' Y M;have z:=M.w4 (Y 4 (by decide));have d5:=M.v5 (Y 5 (by decide));rw[z];clear z M;simp only[aE,Act.put];rw[d5];generalize vs 0=u0;generalize vs 1=u1;generalize vs 2=u2
   have ze:aF w W4:=by
    have h:=S.oQ.trans (((by have h:=zc.oQ;rw[←O.oQ]at h;exact⟨h.os,h.tape,h.output,h.size,h.block⟩):aT (λq=>q=w.heap.size+2∨q=w.heap.size+3) W2 W4).wide (S':=λq=>w.heap.size<=q) (λq r=>by rcases r with r|r<;>omega));exact⟨h.os,h.tape,h.output,h.size,λk hk=>h.block k hk (λe=>by have e':w.heap.size<=k:=e;omega)⟩
   go_wp2_with fail;exact bpr (v:=.tuple #[j.val,fW 0 0 0,.int .i64 1]) (by simp[results,Tryz.results60,go_sem,e0,e1,e2,f0,f1,f2]) rfl ⟨.inl ⟨zd.oQ,by rw[yb.oQ]⟩,ze⟩
 ·have zd:Hid _:=zb;have HP:Hid _:=zy;have HR:Hid _:=hR;have HA:Hid _:=hA;obtain⟨d,iw,k,hv,t⟩:=J8 b' f x;have HV:=aG hv;have T1:l.heap[w.heap.size+4]?=some (iR d iw k):=by rw[Z];show some (UO b' f x)=_;rw[t]
  clear zb zy hR hA hv t Z Q;have u:aF l (l.alloc a.obj):=aB (br _ _) _;have V:=wnq l a.obj;have I:=bJ zs.oQ u;have P:=bJ zq.oQ u;have X:=bJ T1 u;have S:=aG (zp.oQ.trans (aT.below u));obtain⟨W2,za⟩:=cK (l.alloc a.obj);rw[za]at u V I P X S;have l0:W2.drew.cell? ⟨l.heap.size,0,none⟩=some (.int .i64 a.now):=aJ (w:=W2.drew) V rfl;have l1:W2.drew.cell? ⟨l.heap.size,1,none⟩=some (.slice a.fa a.fl.length a.fc):=aJ (w:=W2.drew) V rfl;have l2:W2.drew.cell? ⟨l.heap.size,2,none⟩=some (.slice a.ha a.hl.length a.hc):=aJ (w:=W2.drew) V rfl;have t0:W2.drew.cell? ⟨w.heap.size+4,0,none⟩=some (.int .i64 d):=aJ (w:=W2.drew) X rfl;have t1:W2.drew.cell? ⟨w.heap.size+4,1,none⟩=some (.int .i64 iw):=aJ (w:=W2.drew) X rfl;have t2:W2.drew.cell? ⟨w.heap.size+4,2,none⟩=some (.int .i64 k):=aJ (w:=W2.drew) X rfl;have q0:W2.drew.cell? ⟨w.heap.size+3,0,none⟩=some (.int .i64 0):=aJ (w:=W2.drew) P rfl;have q1:W2.drew.cell? ⟨w.heap.size+3,1,none⟩=some (.int .i64 0):=aJ (w:=W2.drew) P rfl;have q2:W2.drew.cell? ⟨w.heap.size+3,2,none⟩=some (.int .i64 0):=aJ (w:=W2.drew) P rfl;have r0:W2.drew.cell? ⟨w.heap.size+2,0,none⟩=some (.int .i64 0):=aJ (w:=W2.drew) I rfl;have r1:W2.drew.cell? ⟨w.heap.size+2,1,none⟩=some (.slice none 0 0):=aJ (w:=W2.drew) I rfl;have r2:W2.drew.cell? ⟨w.heap.size+2,2,none⟩=some (.slice none 0 0):=aJ (w:=W2.drew) I rfl;have rf:∀i,W2.drew.frozen? ⟨w.heap.size+2,i,none⟩=false:=λi=>by have:W2.drew.heap[w.heap.size+2]?=_:=I;simp[World.frozen?,this]
  have T:Hid (W2.drew.heap[w.heap.size+2]?=some (.cells #[.int .i64 0,.slice none 0 0,.slice none 0 0] 30)):=I;have G:Hid (W2.drew.heap[w.heap.size+3]?=some (iR 0 0 0)):=P;have ya:=aG u;clear V I P X T1 u;obtain⟨K,y⟩:=cK W2.drew;rw[y]at l0 l1 l2 t0 t1 t2 q0 q1 q2 r0 r1 r2 T G;rw[y]at rf;have O:=aG y;clear y;go_wp2_with fail;clear za;have y:=O.oQ;have C:aT (λq=>q=w.heap.size+2) K (((K.setCell ⟨w.heap.size+2,0,none⟩ (.int .i64 a.now)).setCell ⟨w.heap.size+2,1,none⟩ (.slice a.fa a.fl.length a.fc)).setCell ⟨w.heap.size+2,2,none⟩ (.slice a.ha a.hl.length a.hc)):=(((aT.refl (λq=>q=w.heap.size+2) K).set (g:=w.heap.size+2) rfl _ _).set (g:=w.heap.size+2) rfl _ _).set (g:=w.heap.size+2) rfl _ _;have J:=aO (aO (aO T.oQ 0 (.int .i64 a.now)) 1 (.slice a.fa a.fl.length a.fc)) 2 (.slice a.ha a.hl.length a.hc);obtain⟨W3,zk⟩:=cK (((K.setCell ⟨w.heap.size+2,0,none⟩ (.int .i64 a.now)).setCell ⟨w.heap.size+2,1,none⟩ (.slice a.fa a.fl.length a.fc)).setCell ⟨w.heap.size+2,2,none⟩ (.slice a.ha a.hl.length a.hc));rw[zk]at C J;have Q3:=bE G.oQ C (by show¬(w.heap.size+3=w.heap.size+2);omega);have H:=aO (aO (aO Q3 0 (.int .i64 d)) 1 (.int .i64 iw)) 2 (.int .i64 k);have b4:aT (λq=>q=w.heap.size+3) W3 (((W3.setCell ⟨w.heap.size+3,0,none⟩ (.int .i64 d)).setCell ⟨w.heap.size+3,1,none⟩ (.int .i64 iw)).setCell ⟨w.heap.size+3,2,none⟩ (.int .i64 k)):=(((aT.refl (λq=>q=w.heap.size+3) W3).set (g:=w.heap.size+3) rfl _ _).set (g:=w.heap.size+3) rfl _ _).set (g:=w.heap.size+3) rfl _ _;have o0:=C.cell (p:=⟨w.heap.size+3,0,none⟩) (by show¬(w.heap.size+3=w.heap.size+2);omega) q0;have o1:=C.cell (p:=⟨w.heap.size+3,1,none⟩) (by show¬(w.heap.size+3=w.heap.size+2);omega) q1;have o2:=C.cell (p:=⟨w.heap.size+3,2,none⟩) (by show¬(w.heap.size+3=w.heap.size+2);omega) q2;have oF:∀i,W3.frozen? ⟨w.heap.size+3,i,none⟩=false:=λi=>by simp[World.frozen?,bE G.oQ C (by show¬(w.heap.size+3=w.heap.size+2);omega)]
  obtain⟨W4,zl⟩:=cK (((W3.setCell ⟨w.heap.size+3,0,none⟩ (.int .i64 d)).setCell ⟨w.heap.size+3,1,none⟩ (.int .i64 iw)).setCell ⟨w.heap.size+3,2,none⟩ (.int .i64 k));rw[zl]at b4 H;have W:=bE J b4 (by show¬(w.heap.size+2=w.heap.size+3);omega);obtain⟨e0,e1,e2⟩:=aM W;obtain⟨f0,f1,f2⟩:=aM H;have zc:Hid _:=(C.wide (S':=λq=>q=w.heap.size+2∨q=w.heap.size+3) (λq r=>.inl r)).trans (b4.wide (λq r=>.inr r));clear J Q3 H W
  have E:∀w',(w'=K∨w'=W3∨w'=W4)->aT (λq=>q=w.heap.size+2∨q=w.heap.size+3) K w':=λw' h=>by
   rcases h with rfl|rfl|rfl;·exact aT.refl _ _
   ·exact C.wide (λq r=>.inl r)
   ·exact(C.wide (λq r=>.inl r)).trans (b4.wide (λq r=>.inr r))
  have R:Hid _:=E;clear E;refine wpIn_wide.1 (gP (F:=Fence.wide) (n:=0) (by kernel_rfl) [some 18,some 19,some 20,none,none,some 6] (K3 a.val (fW d iw k) (.int .i64 c) K W3 W4) (by kernel_rfl) ?h0 K3.ext ?step ?fin);case h0=>exact⟨λh=>h.elim,λh=>h.elim,λh=>h.elim,λh=>h.elim,λh=>h.elim,λh=>h.elim,λ_=>y⟩
  case step=>
   intro L ii o vs w' t N D zn M;have hi:ii<6:=(lgs.1 t).1;have B:=M.cases;have s:=R.oQ w' B;have m0:=s.cell (p:=⟨l.heap.size,0,none⟩) (by show¬(l.heap.size=w.heap.size+2∨l.heap.size=w.heap.size+3);omega) l0;have m1:=s.cell (p:=⟨l.heap.size,1,none⟩) (by show¬(l.heap.size=w.heap.size+2∨l.heap.size=w.heap.size+3);omega) l1;have m2:=s.cell (p:=⟨l.heap.size,2,none⟩) (by show¬(l.heap.size=w.heap.size+2∨l.heap.size=w.heap.size+3);omega) l2;have n0:=s.cell (p:=⟨w.heap.size+4,0,none⟩) (by show¬(w.heap.size+4=w.heap.size+2∨w.heap.size+4=w.heap.size+3);omega) t0;have n1:=s.cell (p:=⟨w.heap.size+4,1,none⟩) (by show¬(w.heap.size+4=w.heap.size+2∨w.heap.size+4=w.heap.size+3);omega) t1;have n2:=s.cell (p:=⟨w.heap.size+4,2,none⟩) (by show¬(w.heap.size+4=w.heap.size+2∨w.heap.size+4=w.heap.size+3);omega) t2;have A:=aG M;clear s B M;match ii,hi with
   |0,_=>
    simp at t;subst t;simp only[aE,Act.put];gi_wp2;exact⟨a.val,by simp[aH],A.oQ.add0 rfl⟩
   |1,_=>
    simp at t;subst t;simp only[aE,Act.put];gi_wp2;exact⟨(fW d iw k),by simp[aH],A.oQ.add1 rfl⟩
   |2,_=>
    simp at t;subst t;simp only[aE,Act.put];gi_wp2;exact⟨.int .i64 c,by simp[aH],A.oQ.add2 rfl⟩
   |3,_=>
    simp at t;subst t;have d0:=A.oQ.v0 (Zq D 0);have z:=A.oQ.w0 N;have zo:¬L 4:=λh4=>N (zn 4 _ h4 rfl { on:=3,ground:=Ground.chain} (by simp) rfl);rw[z]at m0 m1 m2 n0 n1 n2 ⊢;simp only[aE,Act.put];rw[d0];gi_wp2_with fail;exact⟨undef,by simp[aH,d0],A.oQ.add3 zo⟩
   |4,_=>
    simp at t;subst t;have d1:=A.oQ.v1 (Zq D 1);have h3:L 3:=D { on:=3,ground:=Ground.chain} (by simp) rfl;have z:=A.oQ.w3 h3 N;rw[z]at m0 m1 m2 n0 n1 n2 ⊢;simp only[aE,Act.put];rw[d1];gi_wp2_with fail;exact⟨undef,by simp[aH,d1],A.oQ.add4 h3⟩
   |5,_=>
    simp at t;subst t;have d2:=A.oQ.v2 (Zq D 2);simp only[aE,Act.put];rw[d2];gi_wp2;exact⟨.int .i64 c,by simp[aH,d2],A.oQ.add5 rfl⟩
   |q+6,h=>exact absurd h (by omega)
  case fin=>
   intro L vs w' Y M;have z:=M.w4 (Y 4 (by decide));have d5:=M.v5 (Y 5 (by decide));rw[z];clear z M;simp only[aE,Act.put];rw[d5];generalize vs 0=u0;generalize vs 1=u1;generalize vs 2=u2
   have ze:aF w W4:=by
    have h:=S.oQ.trans (((by have h:=zc.oQ;rw[←O.oQ]at h;exact⟨h.os,h.tape,h.output,h.size,h.block⟩):aT (λq=>q=w.heap.size+2∨q=w.heap.size+3) W2 W4).wide (S':=λq=>w.heap.size<=q) (λq r=>by rcases r with r|r<;>omega));exact⟨h.os,h.tape,h.output,h.size,λk hk=>h.block k hk (λe=>by have e':w.heap.size<=k:=e;omega)⟩
   have yc:gY w.heap.size W4 a:=((HA.oQ.zL (w':=W2) ya.oQ).but ((by have h:=zc.oQ;rw[←O.oQ]at h;exact⟨h.os,h.tape,h.output,h.size,h.block⟩):aT (λq=>q=w.heap.size+2∨q=w.heap.size+3) W2 W4) (λq r=>by rcases r with r|r<;>omega)).weak (by omega);go_wp2_with fail;exact bpr (v:=.tuple #[a.val,fW d iw k,.int .i64 c]) (by simp[results,Tryz.results60,go_sem,e0,e1,e2,f0,f1,f2]) rfl ⟨.inr ⟨zd.oQ,b',i,f,a,c,HP.oQ,HR.oQ,by rw[HV.oQ],yc⟩,ze⟩
set_option maxHeartbeats 16000000
def Hx.key (h:Hx):ByteArray×List Bx×List Bx:=(h.n,h.tl,h.nl)
theorem vC {l m:List Hx}(h:l.map Hx.key=m.map Hx.key):aU l m:=by
 have c:m.length=l.length:=by have:=congrArg List.length h;simpa using this.symm
 refine⟨c,λk b=>?_⟩;have a:(l.map Hx.key)[k]?=(m.map Hx.key)[k]?:=by rw[h]
 rw[List.getElem?_map,List.getElem?_map,lge b,lge (by omega:k<m.length)]at a;simp only[Option.map_some,Option.some.injEq,Hx.key,Prod.mk.injEq]at a;exact⟨a.1,a.2.1,a.2.2⟩
theorem tY (l:List Hx)(nm:ByteArray):l4 l nm=((l.map Hx.key).takeWhile (λk=>fY k.1 nm)).length:=by
 unfold l4;rw[List.takeWhile_map,List.length_map];rfl
theorem CX {l m:List Hx}{u v:Hx}(h:aU l m)(g:u.Like v):aU (nE l u) (nE m v):=by
 have c:l.map Hx.key=m.map Hx.key:=h.map Hx.key (λa b e=>by simp[Hx.key,e.n,e.t,e.x]);have d:l4 l u.n=l4 m v.n:=by rw[tY,tY,c,g.n]
 refine vC ?_;unfold nE;rw[d,List.map_append,List.map_append,List.map_cons,List.map_cons,List.map_take,List.map_take,List.map_drop,List.map_drop,c];simp[Hx.key,g.n,g.t,g.x]
theorem VS (l:List Hx)(nm:ByteArray):l4 l nm<=l.length:=(List.takeWhile_sublist _).length_le
theorem TX (l:List Hx)(u:Hx):(nE l u).length=l.length+1:=by
 have:=VS l u.n;unfold nE;simp;omega
theorem UQ {l:List Hx}{u h:Hx}(m:h∈nE l u):h=u∨h∈l:=by
 unfold nE at m;rcases lma.1 m with m|m;·exact .inr (List.mem_of_mem_take m)
 ·rcases List.mem_cons.1 m with m|m;·exact .inl m
  ·exact .inr (List.mem_of_mem_drop m)
def dL (b:Bk)(x:Wx):Int:=iX b (decide (0<=j8 b.hl x.n)) x
def eU (b:Bk)(x:Wx):List Hx:=l3 b x.n (l4 b.hl x.n) (decide (0<=j8 b.hl x.n)) x
theorem yW (x:Wx)(c b a:Int)(w:World)(f:x.In w)(d:x.Fit):
 aY 80 #[x.val,.int .i64 c,.int .i64 b,.int .i64 a] w λe w'=>(∃v,e=.returned v/\aP w' w.heap.size v (bM x c b a))/\aF w w':=
 cw.1 (sC 4 (by omega) x c b a w f d.wn d.ln d.yn)
def D4 (b:Bk)(x:Wx)(z:Nat)(e:Ending)(w':World):Prop:=
 (aN b=false/\e=.returned (.tuple #[Bk.val ⟨0,none,[],0,none,[],0⟩,fW 0 0 0,.int .i64 1]))∨
 (aN b=true/\∃b':Bk,e=.returned (.tuple #[b'.val,gX b (decide (0<=j8 b.hl x.n)) x,.int .i64 (dL b x)])/\b'.now=b.now/\b'.fl=b.fl/\aU (eU b x) b'.hl/\eF z w' b')
abbrev WI (n0:Nat)(XX:World)(y:Bk):World:=((XX.setCell ⟨n0+2,0,none⟩ (.int .i64 y.now)).setCell ⟨n0+2,1,none⟩ (.slice y.fa y.fl.length y.fc)).setCell ⟨n0+2,2,none⟩ (.slice y.ha y.hl.length y.hc)
theorem SD (a:Nat)(b:World)(y:Bk):aT (λq=>q=a+2) b (WI a b y):=
 (((aT.refl (λq=>q=a+2) b).set (g:=a+2) rfl _ _).set (g:=a+2) rfl _ _).set (g:=a+2) rfl _ _
def XO (j:Nat):List Nat:=[j]
def S6 (j:Nat):Bool:=j==14
def YQ (d iw kw:Int)(_:Nat)(v:Value):Prop:=v=fW d iw kw
abbrev UX (n0:Nat)(XX:World)(y:Bk)(d i k:Int):World:=(((((XX.setCell ⟨n0+2,0,none⟩ (.int .i64 y.now)).setCell ⟨n0+2,1,none⟩ (.slice y.fa y.fl.length y.fc)).setCell ⟨n0+2,2,none⟩ (.slice y.ha y.hl.length y.hc)).setCell ⟨n0+3,0,none⟩ (.int .i64 d)).setCell ⟨n0+3,1,none⟩ (.int .i64 i)).setCell ⟨n0+3,2,none⟩ (.int .i64 k)
theorem wE (a:Nat)(b:World)(y:Bk)(d i k:Int):aT (λq=>q=a+2∨q=a+3) b (UX a b y d i k):=
 ((((((aT.refl _ b).set (g:=a+2) (.inl rfl) _ _).set (g:=a+2) (.inl rfl) _ _).set (g:=a+2) (.inl rfl) _ _).set (g:=a+3) (.inr rfl) _ _).set (g:=a+3) (.inr rfl) _ _).set (g:=a+3) (.inr rfl) _ _
def OO (n0 C:Nat)(y:Bk)(x:Wx)(d iw kw:Int)(Z:Nat)(j:Nat)(vs:Nat->Value)(w:World):Prop:=
 match j with
 |0=>vs 0=y.val
 |1=>vs 1=.pointer (some ⟨n0+1,0,none⟩)
 |2=>vs 2=.string x.n
 |3=>vs 3=x.val
 |4=>vs 4=.pointer (some ⟨C,1,none⟩)
 |5=>vs 5=.int .i64 iw
 |6=>vs 6=.pointer (some ⟨C,2,none⟩)
 |7=>vs 7=.int .i64 kw
 |8=>vs 8=.pointer (some ⟨C,0,none⟩)
 |9=>vs 9=.int .i64 d
 |10=>aP w Z (vs 10) (bM x iw kw d)
 |11=>∃ta tc,vs 11=Hx.val ⟨x.n,ta,(bM x iw kw d),tc,none,[],0⟩/\aP w Z (.slice ta (bM x iw kw d).length tc) (bM x iw kw d)
 |12=>∃ta tc a c,vs 12=Bk.val ⟨y.now,y.fa,y.fl,y.fc,a,nE y.hl ⟨x.n,ta,(bM x iw kw d),tc,none,[],0⟩,c⟩/\bQ 90 3 Hx.cells w Z (.slice a (nE y.hl ⟨x.n,ta,(bM x iw kw d),tc,none,[],0⟩).length c) (nE y.hl ⟨x.n,ta,(bM x iw kw d),tc,none,[],0⟩)/\aP w Z (.slice ta (bM x iw kw d).length tc) (bM x iw kw d)
 |13=>∃b2:Bk,vs 13=b2.val/\b2.now=y.now/\b2.fl=y.fl/\aU (nE y.hl ⟨x.n,none,(bM x iw kw d),0,none,[],0⟩) b2.hl/\eF Z w b2
 |14=>vs 14=fW d iw kw
 |_=>True
theorem OO.zL {k C:Nat}{y:Bk}{x:Wx}{d g i:Int}{Z:Nat}(j:Nat)(m:Nat->Value)(w w':World)(h:OO k C y x d g i Z j m w)(b:aF w w'):OO k C y x d g i Z j m w':=by
 unfold OO at h ⊢;split
 all_goals first
  |exact h
  |exact aP.zL h b
  |exact(by obtain⟨ta,f,e,o⟩:=h;exact⟨ta,f,e,aP.zL o b⟩)
  |exact(by obtain⟨ta,f,a,c,e,o,p⟩:=h;exact⟨ta,f,a,c,e,bQ.zL o b,aP.zL p b⟩)
  |exact(by obtain⟨n,e,q,r,l,s⟩:=h;exact⟨n,e,q,r,l,s.zL b⟩)
  |trivial
theorem OO.loc {e C:Nat}{y:Bk}{x:Wx}{d b c:Int}{Z:Nat}(j:Nat)(f a:Nat->Value)(w:World)(g:∀q∈XO j,f q=a q)(h:OO e C y x d b c Z j f w):OO e C y x d b c Z j a w:=by
 unfold OO at h ⊢;split
 all_goals first
  |(rw[←g _ (by simp[XO])];exact h)
  |trivial
theorem OO.free {f C:Nat}{y:Bk}{x:Wx}{d b c:Int}{Z:Nat}(j:Nat)(e:Nat->Value)(w:World)(a:S6 j=true)(h:OO f C y x d b c Z j e w):YQ d b c j (e j):=by
 simp[S6]at a;subst a;exact h
def G13 (n0:Nat)(w7:World)(y:Bk)(x:Wx)(d iw kw:Int)(t:Nat)(vs:Nat->Value)(w':World):Prop:=
 ∃(w0:World) (b2:Bk),aF w7 w0/\vs 13=b2.val/\b2.now=y.now/\b2.fl=y.fl/\aU (nE y.hl ⟨x.n,none,bM x iw kw d,0,none,[],0⟩) b2.hl/\eF w7.heap.size w0 b2/\w'=if t=16 then WI n0 w0 b2 else w0
theorem FV (b:Bk)(x:Wx)(w:World)(yt:BG b w)(hq:iW w b)(hx:iL w x):
 aY 40 #[b.val,x.val] w λe w'=>D4 b x w.heap.size e w'/\aF w w':=by
 have N1:aF w (w.alloc b.obj):=aB (br _ _) _;have A1:=wnq w b.obj;obtain⟨U1,zw⟩:∃U,w.alloc b.obj=U:=⟨_,rfl⟩;have z1:U1.heap.size=w.heap.size+1:=by rw[←zw];simp
 rw[zw]at N1 A1;have M2:aF U1 (U1.alloc x.obj):=aB (br _ _) _;have X2:=wnq U1 x.obj;obtain⟨U2,zx⟩:∃U,U1.alloc x.obj=U:=⟨_,rfl⟩;have z2:U2.heap.size=w.heap.size+2:=by rw[←zx];simp[z1]
 rw[zx]at M2 X2;have M3:aF U2 (U2.alloc (.cells #[.int .i64 0,.slice none 0 0,.slice none 0 0] 30)):=aB (br _ _) _;have R3:=wnq U2 (.cells #[.int .i64 0,.slice none 0 0,.slice none 0 0] 30);obtain⟨U3,zy⟩:∃U,U2.alloc (.cells #[.int .i64 0,.slice none 0 0,.slice none 0 0] 30)=U:=⟨_,rfl⟩;have z3:U3.heap.size=w.heap.size+3:=by rw[←zy];simp[z2]
 rw[zy]at M3 R3;have M4:aF U3 (U3.alloc (iR 0 0 0)):=aB (br _ _) _;have Q4:=wnq U3 (iR 0 0 0);obtain⟨U4,zz⟩:∃U,U3.alloc (iR 0 0 0)=U:=⟨_,rfl⟩;have z4:U4.heap.size=w.heap.size+4:=by rw[←zz];simp[z3]
 rw[zz]at M4 Q4;have N4:aF w U4:=aC (aC (aC N1 M2) M3) M4;have A4:=bJ (bJ (bJ A1 M2) M3) M4;have X4:=bJ (bJ X2 M3) M4;have R4:=bJ R3 M4;rw[z1]at X4;rw[z2]at R4;rw[z3]at Q4;obtain⟨G,I,J⟩:=aM A4;obtain⟨p0,p1,p2,p3,p4,p5,p6,p7⟩:=gJ X4;have yf:Hid _:=A4;have ym:Hid _:=X4;have yk:Hid _:=R4;have yj:Hid _:=Q4;clear N1 M2 M3 M4 A1 X2 R3 Q4 A4 X4 R4;go_enter Tryz.func40,Tryz.ntmps40;go_wp2_with fail;clear zw zx zy zz;refine(yt U4 N4).mono ?_;rintro e w1 ⟨rfl,Q⟩;have N1:=aC N4 Q;have zp:Hid _:=bJ yf.oQ Q;have yl:Hid _:=bJ ym.oQ Q;have zk:Hid _:=bJ yk.oQ Q;have zj:Hid _:=bJ yj.oQ Q;have hs1:=Q.size;clear Q N4 yt yf ym yk yj G I J p0 p1 p2 p3 p4 p5 p6 p7;cases hbk:aN b with
 |false=>
  have zq:=aG hbk;obtain⟨W,X,Y⟩:=aM zk.oQ;have rf:=iQ zk.oQ;obtain⟨Z,s1,s2⟩:=aM zj.oQ;have sf:=iQ zj.oQ;clear hbk;have HN:=aG N1;go_wp2_with fail;exact bpr (v:=.tuple #[Bk.val ⟨0,none,[],0,none,[],0⟩,fW 0 0 0,.int .i64 1]) (by simp[results,Tryz.results40,go_sem,W,X,Y,Z,s1,s2]) rfl ⟨.inl ⟨zq.oQ,rfl⟩,(wE w.heap.size w1 ⟨0,none,[],0,none,[],0⟩ 0 0 0).under HN.oQ (nlq _) (λk hk=>by rcases hk with hk|hk<;>omega)⟩
 |true=>
  have zq:=aG hbk;clear hbk;obtain⟨G,I,J⟩:=aM zp.oQ;go_wp2_with fail;refine(jV b w1 (hq.hf.zL N1) hq.hnf (hq.hh.zL N1) hq.hnh (λh m=>⟨(hq.hgood h m).1.zL N1,(hq.hgood h m).2⟩)).mono ?_;rintro e w2 ⟨⟨y,rfl,e1,e2,ys,hA⟩,R⟩;have T:aF w2 (w2.alloc y.obj):=aB (br _ _) _;have Y3:=wnq w2 y.obj;have N3:=aC (aC N1 R) T;have ze:Hid _:=bJ (bJ zp.oQ R) T;have zi:Hid _:=bJ (bJ yl.oQ R) T;have M:Hid _:=bJ (bJ zk.oQ R) T;have zb:Hid _:=bJ (bJ zj.oQ R) T;have zc:Hid _:=hA.zL T;have hs2:=R.size;obtain⟨w3,yu⟩:=cK (w2.alloc y.obj);rw[yu]at Y3 N3 ze zi M zb zc;have zl:Hid _:=Y3;have zf:=aG e1;have za:=aG e2;have K:=aG ys;have hs3:w2.heap.size<w3.heap.size:=(bU Y3)
  have F:Hid (∀(XX:World) (y:Bk) (d i k c:Int),y.now=b.now->y.fl=b.fl->aF w XX->eF w1.heap.size XX y->aU (eU b x) y.hl->gX b (decide (0<=j8 b.hl x.n)) x=fW d i k->dL b x=c->D4 b x w.heap.size (.returned (.tuple #[y.val,fW d i k,.int .i64 c])) (UX w.heap.size XX y d i k)/\aF w (UX w.heap.size XX y d i k)):=λXX y d i k c h1 h2 hN hS hl A hc=>by
   refine⟨.inr ⟨zq.oQ,y,by rw[A,hc],h1,h2,hl,(hS.but (wE w.heap.size XX y d i k) (λk hk=>by rcases hk with hk|hk<;>omega)).weak (by omega)⟩,(wE w.heap.size XX y d i k).under hN (nlq _) (λk hk=>by rcases hk with hk|hk<;>omega)⟩
  clear G I J Y3 hA T R N1 zp yl zk zj e1 e2 ys;have zd:aF w3 w3:=br _ _;have A5:=bJ ze.oQ zd;have X5:=bJ zi.oQ zd;have O:=bJ M.oQ zd;have N:=bJ zb.oQ zd;have Y5:=bJ zl.oQ zd;obtain⟨G,I,J⟩:=aM A5;obtain⟨p0,p1,p2,p3,p4,p5,p6,p7⟩:=gJ X5;obtain⟨c0,c1,c2⟩:=aM Y5;obtain⟨W,X,Y⟩:=aM O;have rf:=iQ O;obtain⟨Z,s1,s2⟩:=aM N;have sf:=iQ N;clear A5 X5 O N Y5;go_wp2_with fail;clear yu G I J p0 p1 p2 p3 p4 p5 p6 p7 c0 c1 c2 W X Y rf Z s1 s2 sf;refine(vI b.fl x b.fa b.fc w3 (hq.hf.zL N3) hq.hnf hq.hs (hx.hi.zL N3) hx.hf).mono ?_;rintro e w4 ⟨rfl,yb⟩;have N4:=aC N3 yb;have L:=aG yb;obtain⟨v1,ye⟩:∃v,eJ b.fl x=v:=⟨_,rfl⟩;rw[ye];have zh:=aG ye;clear ye yb zd;have A5:=bJ ze.oQ L.oQ;have X5:=bJ zi.oQ L.oQ;have O:=bJ M.oQ L.oQ;have N:=bJ zb.oQ L.oQ;have Y5:=bJ zl.oQ L.oQ;obtain⟨G,I,J⟩:=aM A5;obtain⟨p0,p1,p2,p3,p4,p5,p6,p7⟩:=gJ X5;obtain⟨c0,c1,c2⟩:=aM Y5;obtain⟨W,X,Y⟩:=aM O;have rf:=iQ O;obtain⟨Z,s1,s2⟩:=aM N;have sf:=iQ N;clear A5 X5 O N Y5;cases v1 with
  |false=>
   have B:Hid (dL b x=2/\eU b x=b.hl/\gX b (decide (0<=j8 b.hl x.n)) x=fW 0 0 0):=by
    have s:dL b x=2:=by unfold dL iX;rw[zh.oQ];rfl
    exact⟨s,by unfold eU l3;unfold dL at s;rw[s];rfl,by unfold gX;unfold dL at s;rw[s];rfl⟩
   have HN:=aG N4;go_wp2_with fail;exact bpr (v:=.tuple #[y.val,fW 0 0 0,.int .i64 2]) (by simp[results,Tryz.results40,go_sem,W,X,Y,Z,s1,s2]) rfl (F.oQ w4 y 0 0 0 2 zf.oQ za.oQ HN.oQ (zc.oQ.zL L.oQ) (by rw[B.oQ.2.1];exact K.oQ) B.oQ.2.2 B.oQ.1)
  |true=>
  go_wp2_with fail;refine(AZ b x.n w4 (hq.hh.zL N4) hq.hnh).mono ?_;rintro e w5 ⟨rfl,z⟩;have N5:=aC N4 z;have C:=aG (aC L.oQ z);clear z G I J p0 p1 p2 p3 p4 p5 p6 p7 c0 c1 c2 W X Y rf Z s1 s2 sf;have A5:=bJ ze.oQ C.oQ;have X5:=bJ zi.oQ C.oQ;have O:=bJ M.oQ C.oQ;have N:=bJ zb.oQ C.oQ;have Y5:=bJ zl.oQ C.oQ;obtain⟨G,I,J⟩:=aM A5;obtain⟨p0,p1,p2,p3,p4,p5,p6,p7⟩:=gJ X5;obtain⟨c0,c1,c2⟩:=aM Y5;obtain⟨W,X,Y⟩:=aM O;have rf:=iQ O;obtain⟨Z,s1,s2⟩:=aM N;have sf:=iQ N;clear A5 X5 O N Y5;obtain⟨yn,ya⟩:=cK (j8 b.hl x.n);have yg:=aG ya;rw[ya];clear ya;rcases mP b.hl x.n with h|⟨j,hj,h⟩
  case inr=>
   obtain rfl:yn=(j:Int):=yg.oQ.symm.trans h
   have B:Hid (dL b x=3/\eU b x=b.hl/\gX b (decide (0<=j8 b.hl x.n)) x=fW 0 0 0):=by
    have s:dL b x=3:=by unfold dL iX;rw[zh.oQ,h];simp
    exact⟨s,by unfold eU l3;unfold dL at s;rw[s];rfl,by unfold gX;unfold dL at s;rw[s];rfl⟩
   have hge:decide ((0:Int)<=(j:Int))=true:=by simp
   clear h hj;have HN:=aG N5;go_wp2_with fail;exact bpr (v:=.tuple #[y.val,fW 0 0 0,.int .i64 3]) (by simp[results,Tryz.results40,go_sem,W,X,Y,Z,s1,s2]) rfl (F.oQ w5 y 0 0 0 3 zf.oQ za.oQ HN.oQ (zc.oQ.zL C.oQ) (by rw[B.oQ.2.1];exact K.oQ) B.oQ.2.2 B.oQ.1)
  obtain rfl:yn=-1:=yg.oQ.symm.trans h;have HF:Hid (decide (0<=j8 b.hl x.n)=false):=by show decide (0<=j8 b.hl x.n)=false;rw[h];rfl
  clear h;by_cases zv:16<=b.hl.length
  ·have yq:decide ((16:Int)<=(b.hl.length:Int))=true:=by simp;omega
   have B:Hid (dL b x=4/\eU b x=b.hl/\gX b (decide (0<=j8 b.hl x.n)) x=fW 0 0 0):=by
    have s:dL b x=4:=by unfold dL iX;rw[zh.oQ,HF.oQ,if_neg (by decide),if_neg (by decide),if_pos zv]
    exact⟨s,by unfold eU l3;unfold dL at s;rw[s];rfl,by unfold gX;unfold dL at s;rw[s];rfl⟩
   have HN:=aG N5;go_wp2_with fail;exact bpr (v:=.tuple #[y.val,fW 0 0 0,.int .i64 4]) (by simp[results,Tryz.results40,go_sem,W,X,Y,Z,s1,s2]) rfl (F.oQ w5 y 0 0 0 4 zf.oQ za.oQ HN.oQ (zc.oQ.zL C.oQ) (by rw[B.oQ.2.1];exact K.oQ) B.oQ.2.2 B.oQ.1)
  have yq:decide ((16:Int)<=(b.hl.length:Int))=false:=by simp;omega
  obtain⟨d,D,E,fr,S⟩:=DA (sA b x);have HB:=aG S;go_wp2_with fail;refine(EG b x w5 (hq.zL N5) (hx.zL N5)).mono ?_;rintro e w6 ⟨rfl,zo⟩;rw[S];have yc:aF w6 (w6.alloc (iR d D E)):=aB (br _ _) _;have C7:=wnq w6 (iR d D E);have NN:=aC (aC N5 zo) yc;have u:=aG (aC (aC C.oQ zo) yc);obtain⟨w7,yv⟩:=cK (w6.alloc (iR d D E));rw[yv]at C7 NN u;have yx:=aG C7;have hs6:=zo.size;have hs67:w6.heap.size<w7.heap.size:=(bU C7);have hs35:=C.oQ.size;clear yc C7 zo S G I J p0 p1 p2 p3 p4 p5 p6 p7 c0 c1 c2 W X Y rf Z s1 s2 sf;have A5:=bJ ze.oQ u.oQ;have X5:=bJ zi.oQ u.oQ;have O:=bJ M.oQ u.oQ;have N:=bJ zb.oQ u.oQ;have Y5:=bJ zl.oQ u.oQ;obtain⟨G,I,J⟩:=aM A5;obtain⟨p0,p1,p2,p3,p4,p5,p6,p7⟩:=gJ X5;obtain⟨c0,c1,c2⟩:=aM Y5;obtain⟨W,X,Y⟩:=aM O;have rf:=iQ O;obtain⟨Z,s1,s2⟩:=aM N;have sf:=iQ N;clear A5 X5 O N Y5;obtain⟨o0,o1,o2⟩:=aM yx.oQ;cases fr with
  |false=>
   have B:Hid (dL b x=5/\eU b x=b.hl/\gX b (decide (0<=j8 b.hl x.n)) x=fW 0 0 0):=by
    have s:dL b x=5:=by unfold dL iX;rw[zh.oQ,HF.oQ,if_neg (by decide),if_neg (by decide),if_neg zv,TP HB.oQ]
    exact⟨s,by unfold eU l3;unfold dL at s;rw[s];rfl,by unfold gX;unfold dL at s;rw[s];rfl⟩
   have HN:=aG NN;go_wp2_with fail;exact bpr (v:=.tuple #[y.val,fW 0 0 0,.int .i64 5]) (by simp[results,Tryz.results40,go_sem,W,X,Y,Z,s1,s2]) rfl (F.oQ w7 y 0 0 0 5 zf.oQ za.oQ HN.oQ (zc.oQ.zL u.oQ) (by rw[B.oQ.2.1];exact K.oQ) B.oQ.2.2 B.oQ.1)
  |true=>
  have B:Hid (dL b x=0/\eU b x=nE b.hl ⟨x.n,none,bM x D E d,0,none,[],0⟩/\gX b (decide (0<=j8 b.hl x.n)) x=fW d D E):=by
   obtain⟨r,hr⟩:=NP HB.oQ;have s:dL b x=0:=by unfold dL iX;rw[zh.oQ,HF.oQ,if_neg (by decide),if_neg (by decide),if_neg zv,hr]
   exact⟨s,by unfold eU l3;unfold dL at s;rw[s,hr];rfl,by unfold gX;unfold dL at s;rw[s,hr];rfl⟩
  have zt:=aG (zc.oQ.zL u.oQ);have xg:y.hl.length=b.hl.length:=K.oQ.len;have yw:y.hl.length<=64:=by omega
  have yi:Hid (∀h∈y.hl,h.Fit):=K.oQ.fit (λh m=>(hq.hgood h m).2);have yz:Hid (w3.heap.size<w7.heap.size):=by show w3.heap.size<w7.heap.size;omega
  clear xg;go_wp2_with fail;clear yv;refine SZ 8 15 16 [some 47,some 48,some 49,some 50,some 51,some 52,some 53,some 54,some 55,some 56,some 57,some 58,some 59,some 60,some 61] S6 XO (OO w.heap.size w6.heap.size y x d D E w7.heap.size) (YQ d D E) (G13 w.heap.size w7 y x d D E) OO.zL OO.loc OO.free ?step ?free ?g0 ?gf ?store ?fin
  case step=>
   intro ii o g w' yr l a V;match ii,yr with
   |0,_=>
    simp at l;subst l;have G:=(a.cell (aA c0)).trans c0;have I:=(a.cell (aA c1)).trans c1;have J:=(a.cell (aA c2)).trans c2;simp only[aE,Act.put];gi_wp2;exact⟨_,by simp[aH],rfl,br _ _⟩
   |1,_|4,_|6,_|8,_=>
    simp at l;subst l;simp only[aE,Act.put];gi_wp2;exact⟨_,by simp[aH],rfl,br _ _⟩
   |2,_=>
    simp at l;subst l;have d1:g 1=_:=Zq V 1;have G:=(a.cell (aA p0)).trans p0;simp only[aE,Act.put];rw[d1];gi_wp2;exact⟨_,by simp[aH,d1],rfl,br _ _⟩
   |3,_=>
    simp at l;subst l;have G:=(a.cell (aA p0)).trans p0;have I:=(a.cell (aA p1)).trans p1;have J:=(a.cell (aA p2)).trans p2;have k3:=(a.cell (aA p3)).trans p3;have k4:=(a.cell (aA p4)).trans p4;have k5:=(a.cell (aA p5)).trans p5;have k6:=(a.cell (aA p6)).trans p6;have k7:=(a.cell (aA p7)).trans p7;simp only[aE,Act.put];gi_wp2;exact⟨_,by simp[aH],rfl,br _ _⟩
   |5,_=>
    simp at l;subst l;have d4:g 4=_:=Zq V 4;have I:=(a.cell (aA o1)).trans o1;simp only[aE,Act.put];rw[d4];gi_wp2;exact⟨_,by simp[aH,d4],rfl,br _ _⟩
   |7,_=>
    simp at l;subst l;have d6:g 6=_:=Zq V 6;have J:=(a.cell (aA o2)).trans o2;simp only[aE,Act.put];rw[d6];gi_wp2;exact⟨_,by simp[aH,d6],rfl,br _ _⟩
   |9,_=>
    simp at l;subst l;have d8:g 8=_:=Zq V 8;have G:=(a.cell (aA o0)).trans o0;simp only[aE,Act.put];rw[d8];gi_wp2;exact⟨_,by simp[aH,d8],rfl,br _ _⟩
   |10,_=>
    simp at l;subst l;have d3:g 3=_:=Zq V 3;have d5:g 5=_:=Zq V 5;have d7:g 7=_:=Zq V 7;have d9:g 9=_:=Zq V 9;simp only[aE,Act.put];rw[d3,d5,d7,d9];gi_wp2_with fail;refine⟨trivial,rfl,?_⟩;refine(cw.2 (yW x D E d w' (hx.hi.zL (aC NN a)) hx.hf)).mono ?_;rintro e w5 ⟨⟨v5,rfl,yp⟩,z⟩;have zs:Hid _:=yp.weak (base':=w7.heap.size) a.size;clear yp;gi_wp2;exact⟨_,by simp[aH,d3,d5,d7,d9],zs.oQ,z⟩
   |11,_=>
    simp at l;subst l;have d2:g 2=_:=Zq V 2;have zm:aP w' w7.heap.size (g 10) (bM x D E d):=Zq V 10;obtain⟨ta,tc,A,_⟩:=zm.slice;rw[A]at zm;have HO:=aG zm;clear zm;simp only[aE,Act.put];rw[d2,A];gi_wp2;exact⟨_,by simp[aH,d2,A],⟨ta,tc,rfl,HO.oQ⟩,br _ _⟩
   |12,_=>
    simp at l;subst l;have d0:g 0=_:=Zq V 0;have xc:=Zq V 11;obtain⟨ta,tc,A,hO⟩:=xc;have HO:=aG hO;clear hO;simp only[aE,Act.put];rw[d0,A];gi_wp2_with fail;refine⟨trivial,rfl,?_⟩;refine(cw.2 (OT y ⟨x.n,ta,bM x D E d,tc,none,[],0⟩ w1.heap.size w' (zt.oQ.h.zL a) yw)).mono ?_;rintro e w5 ⟨⟨a',c',rfl,hX⟩,z⟩;have HX:Hid (bQ 90 3 Hx.cells w5 w7.heap.size _ _):=hX.weak (base':=w7.heap.size) a.size;have zs:=aG (HO.oQ.zL z);clear hX;gi_wp2;exact⟨_,by simp[aH,d0,A],⟨ta,tc,a',c',rfl,HX.oQ,zs.oQ⟩,z⟩
   |13,_=>
    simp at l;subst l;have xd:=Zq V 12;obtain⟨ta,tc,a',c',A,hX,hO⟩:=xd;have HX:=aG hX;have HO:=aG hO;clear hX hO;simp only[aE,Act.put];rw[A];gi_wp2_with fail;refine⟨trivial,rfl,?_⟩
    refine(cw.2 (jV ⟨y.now,y.fa,y.fl,y.fc,a',nE y.hl ⟨x.n,ta,bM x D E d,tc,none,[],0⟩,c'⟩ w' ((zt.oQ.f.xs Fx.cells_length).zL a) (by rw[za.oQ];exact hq.hnf) (HX.oQ.xs Hx.cells_length) (by rw[TX];omega) (λh m=>by
     rcases UQ m with rfl|m;·exact⟨⟨HO.oQ.xs,.inl rfl⟩,⟨by have:=sV x D E d;show(bM x D E d).length<=_;omega,by simp,hx.hf.sn⟩⟩
     ·exact⟨(zt.oQ.inn h m).zL a,yi.oQ h m⟩))).mono ?_
    rintro e w5 ⟨⟨H,rfl,e1,e2,hl,hS⟩,z⟩;have xb:=aG (hS.weak a.size);have yh:Hid (H.now=y.now/\H.fl=y.fl):=⟨e1,e2⟩;have yy:Hid (aU (nE y.hl ⟨x.n,none,bM x D E d,0,none,[],0⟩) H.hl):=aU.trans (m:=nE y.hl ⟨x.n,ta,bM x D E d,tc,none,[],0⟩) (CX (aU.refl _) ⟨rfl,rfl,rfl⟩) hl;clear hS e1 e2 hl;gi_wp2;exact⟨_,by simp[aH,A],⟨H,rfl,yh.oQ.1,yh.oQ.2,yy.oQ,xb.oQ⟩,z⟩
   |14,_=>
    simp at l;subst l;have G:=(a.cell (aA o0)).trans o0;have I:=(a.cell (aA o1)).trans o1;have J:=(a.cell (aA o2)).trans o2;simp only[aE,Act.put];gi_wp2;exact⟨_,by simp[aH],rfl,br _ _⟩
   |q+15,h=>exact absurd h (by omega)
  case free=>
   intro ii o g w' t yr yd l xe xf hG V;obtain rfl:ii=14:=by simpa[S6]using yd
   obtain rfl:t=16:=by omega
   simp at l;subst l;obtain⟨w0,H,P,A,e1,e2,hl,hS,hw⟩:=hG;rw[if_pos rfl]at hw;have zn:aT (λq=>q=w.heap.size+2) w0 w':=by rw[hw];exact SD _ _ _
   have G:=zn.cell (p:=⟨w6.heap.size,0,none⟩) (by show¬(w6.heap.size=w.heap.size+2);omega) ((P.cell (aA o0)).trans o0);have I:=zn.cell (p:=⟨w6.heap.size,1,none⟩) (by show¬(w6.heap.size=w.heap.size+2);omega) ((P.cell (aA o1)).trans o1);have J:=zn.cell (p:=⟨w6.heap.size,2,none⟩) (by show¬(w6.heap.size=w.heap.size+2);omega) ((P.cell (aA o2)).trans o2);clear hw zn A e1 e2 hl hS P;simp only[aE,Act.put];gi_wp2
   first
    |exact⟨_,by simp[aH],rfl,rfl⟩
    |exact⟨_,by simp[aH],rfl⟩
  case g0=>
   intro g w' a hp;obtain⟨H,e,h1,h2,h3,h4⟩:=hp 13 (by decide) rfl;exact⟨w',H,a,e,h1,h2,h3,h4,rfl⟩
  case gf=>
   intro t g w' ii v yd hG;obtain rfl:ii=14:=by simpa[S6]using yd
   exact hG
  case store=>
   intro t o g w' xe xf l hG V;obtain rfl:t=15:=by omega
   simp at l;subst l;obtain⟨w0,H,P,A,e1,e2,hl,hS,hw⟩:=hG;rw[if_neg (by decide)]at hw;subst hw;have M8:=aC u.oQ P;have R8:=bJ M.oQ M8;obtain⟨g0,g1,g2⟩:=aM R8;have gf:=iQ R8;have zu:=aG hS;have zr:=aG hl;have zg:Hid (H.now=y.now/\H.fl=y.fl):=⟨e1,e2⟩;clear R8 M8 hS hl e1 e2;simp only[aE,Act.put];rw[A];gi_wp2;exact⟨undef,by simp[aH,A],w',H,P,A,zg.oQ.1,zg.oQ.2,zr.oQ,zu.oQ,by rw[if_pos rfl]⟩
  case fin=>
   intro g w9 hG hp;have yo:g 14=_:=hp 14 (by decide) rfl;obtain⟨w8,H,a,A,e1,e2,hl,hS,hw⟩:=hG;rw[if_pos rfl]at hw;subst hw;have zu:=aG hS;have zg:Hid (H.now=y.now/\H.fl=y.fl):=⟨e1,e2⟩;have zr:=aG hl;have xa:=aG (aC NN a);have hs7:w3.heap.size<w7.heap.size:=yz.oQ;have M8:=aC u.oQ a;clear hp hS e1 e2 hl;simp only[lds,List.drop_zero,aE,Act.put];rw[A,yo];clear A yo G I J p0 p1 p2 p3 p4 p5 p6 p7 c0 c1 c2 W X Y rf Z s1 s2 sf o0 o1 o2;have R8:=bJ M.oQ M8;have Q8:=bJ zb.oQ M8;obtain⟨W,X,Y⟩:=aM R8;have rf:=iQ R8;obtain⟨Z,s1,s2⟩:=aM Q8;have sf:=iQ Q8;clear R8 Q8 M8 a NN;generalize g 0=v0;generalize g 1=v1;generalize g 2=v2;generalize g 3=v3;generalize g 4=v4;generalize g 5=v5;generalize g 6=v6;generalize g 7=v7;generalize g 8=v8;generalize g 9=v9;generalize g 10=v10;generalize g 11=v11;generalize g 12=v12;generalize g 15=v15;gi_wp2_with fail;go_wp2_with fail;exact bpr (v:=.tuple #[H.val,fW d D E,.int .i64 0]) (by simp[results,Tryz.results40,go_sem,W,X,Y,Z,s1,s2]) rfl (F.oQ w8 H d D E 0 (zg.oQ.1.trans zf.oQ) (zg.oQ.2.trans za.oQ) xa.oQ (zu.oQ.weak (by omega)) (by rw[B.oQ.2.1];exact aU.trans (CX K.oQ ⟨rfl,rfl,rfl⟩) zr.oQ) B.oQ.2.2 B.oQ.1)
end Go.Proofs.YtcdbcliaepcpfaaGreatDoor
