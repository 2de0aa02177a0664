import Derived.Test.YtoolgmmljacfmaaGreatDoorYh
import Derived.Test.YtoolgmmljacfmaaGreatDoorYg
set_option maxRecDepth 100000
set_option maxHeartbeats 8000000
open List renaming length → ln
open Go.RowKit
namespace Go.Proofs.YtoolgmmljacfmaaGreatDoor
open Go.BigFrame
variable {D e a:Nat}{b f:Bk}{h:Va}{nm n:Ba}{g:Bool}{c:Int}
def LM (D:Nat)(b:Bk)(vw:Value)(bl off:Nat)(nm:ByteArray)(n:ByteArray)(tk:Bool)(s':Bk)(c:Int)(j:Nat)(v:Value)(w:World):Prop:=
 match j with
 |0|1|2|3=>v=(E D 0)
 |4=>v=b.val
 |5|8=>v=vw
 |6=>v=(E bl (off+1))
 |7=>v=.string nm
 |9=>v=(E bl off)
 |10=>v=.string n
 |11=>v=.bool tk
 |12=>∃b':Bk,v=.tuple #[b'.val,I c]/\eI (λk=>k=D) w s' b'
 |13=>∃b':Bk,v=b'.val/\eI (λk=>k=D) w s' b'
 |14=>v=I c
 |_=>True
theorem LM.zL (j:Nat)(v:Va)(w w':Wd)(d:LM D b h e a nm n g f c j v w)(l:aG w w'):LM D b h e a nm n g f c j v w':=by
 unfold LM at*;split at d
 all_goals first
  |exact d
  |(obtain⟨b',i,k⟩:=d;exact⟨b',i,k.zL l⟩)
theorem WN (D:Nat) (w:Wd) (s:St) (b:Bk) (ta:Oa) (tc kk:Nat) (z:o9 D w s b ta tc) (zb:jF kk s) (_hkk:kk<=1000) (n:Ba) (a:List Ba) (y d f:Nat) (B:Xs 1 eE w (some (Y y d)) (n::a)) (hcap:ln a+1<=f) (hlen:ln a+1<=1048570) (_hsz:∀x∈n::a,x.size<=1048575) (hn:n.toList=uZ):
 aW 23 #[E D 0,.slice (some (Y y d)) (ln a+1) f] w λe w'=>RO D w (aX s (n::a)) e w':=by
 have Q:=iC B 0 n rfl;rw[naz]at Q;have L:Xs 1 eE w (some (Y y (d+1))) a:=jN B 1 [n] _ [] sm rfl;go_enter Tryz.func23,Tryz.ntmps23;go_upto_region 1 with fail;go_cut [5,6] (λv5 v6 wx=>v6=.bool (j7 a)/\Hid (j7 a=true->∃a' c',v5=.slice a' (ln (aS a)) c'/\Xs 1 dV wx a' (aS a))/\aG w wx)
 case first=>
  by_cases p:f=1
  ·have ha:a=[]:=enl om;subst ha;subst p;go_wp2_with fail;refine(cC [] (some (Y y d)) 0 w (.inl rfl) sm).mono ?_;rintro e w1 ⟨⟨v1,rfl,j⟩,A⟩;have v:=aI j;clear j;go_wp2;go_meet;exact⟨rfl,v,A⟩
  ·go_wp2_with fail;refine(cC a (some (Y y (d+1))) (f-1) w L om).mono ?_;rintro e w1 ⟨⟨v1,rfl,j⟩,A⟩;have v:=aI j;clear j;go_wp2;go_meet;exact⟨rfl,v,A⟩
 case rest=>
  obtain⟨rfl,HV,H⟩:=hcut;replace B:=B.zL H;replace Q:=ctq H Q;replace z:=z.zL H;have W:=aI H;clear L H;by_cases R:ln a=1
  ·obtain⟨nm,rfl⟩:∃nm,a=[nm]:=leo.1 R;have c1:=iC B 1 nm rfl;clear B R HV;obtain⟨N,p⟩:=pC s.b nm;have G:Hid (aX s [n,nm]=(⟨dN s.b s.b.now (dI s.b nm true),s.t⟩,jC (cG s.b nm))):=by rw[Hid,aX,hn];rfl
   obtain⟨c,r⟩:=cI (cG s.b nm);have F:Hid (aX s [n,nm]=(⟨dN s.b s.b.now (dI s.b nm true),s.t⟩,jC c)):=by rw[←r];exact G.oQ
   rw[r]at N p;have V:=aI r;have U:Hid (aU (λk=>k=D) w wc):=aU.below W.oQ;clear r G W;go_upto_region 14 with fail;refine pG 15 [some 129,some 130,some 131,some 132,some 133,some 134,some 135,some 136,some 137,some 138,some 139,some 140,some 141,some 142,some 143] (LM D b (sl y d 2 f) y d nm n true (dN s.b s.b.now (dI s.b nm true)) c) LM.zL ?step ?fin
   case step=>
    intro ii o P w' za O m l;obtain⟨z0z,z1z,z2z,z3z⟩:=(z.zL m).c;have z4z:=ctq m c1;have z5z:=ctq m Q;match ii,za with
    |2,_|3,_|4,_|6,_|7,_|9,_|10,_|11,_=>
     cases O;simp[Region.binds,LM]at l;simp only[aD,Act.put,l];gi_wp2;exact⟨_,by simp[aH,l],rfl,br _ _⟩
    |0,_|1,_|5,_|8,_=>
     cases O;gi_wp2;exact⟨_,uhx,rfl,br _ _⟩
    |12,_=>
     cases O;simp[Region.binds,LM]at l;simp only[aD,Act.put,l];gi_wp2_with fail;refine tqx ?_;refine(cw.2 (FJ (S':=λk=>k=D) (z.zL m).b zb.b nm true (λk e=>by rw[e];exact iB (z.zL m).o))).mono ?_;rintro e w5 ⟨⟨b',rfl,i⟩,Z⟩;have u:=aI i;clear i;rw[V.oQ];gi_wp2;exact⟨_,by simp[aH,l],⟨b',rfl,u.oQ⟩,Z⟩
    |13,_=>
     cases O;obtain⟨b',g,i⟩:=Zq l 12;have u:=aI i;clear l i;simp only[aD,Act.put,g];gi_wp2;exact⟨_,by simp[aH,g],⟨b',rfl,u.oQ⟩,br _ _⟩
    |14,_=>
     cases O;obtain⟨b',g,i⟩:=Zq l 12;have u:=aI i;clear l i;simp only[aD,Act.put,g];gi_wp2;exact⟨_,by simp[aH,g],rfl,br _ _⟩
    |q+15,h=>omega
   case fin=>
    intro P w8 m S;have e0:P 0=(E D 0):=S 0 dz;obtain⟨b',eb,i⟩:=S 13 dz;have ec:P 14=I c:=S 14 dz;have J:=z.zL m;have C:=aI (U.oQ.trans (aU.below m));have u:=aI i;clear S m i;simp only[lds,ldz,aD,Act.put];rw[e0,eb,ec];clear e0 eb ec;generalize P=P;gi_wp2_with fail;refine tqx ?_;refine(cw.2 (sM D w8 _ b _ _ J _ b' u.oQ c N p)).mono ?_;rintro e w9 ⟨⟨b9,ta9,tc9,K⟩,rfl,M⟩;have X:=aI K;have T:=aI (C.oQ.trans M);clear K M C u J;gi_wp2_with fail;go_wp2;go_ret;exact⟨⟨_,_,_,by rw[F.oQ];exact X.oQ⟩,by rw[F.oQ];rfl,T.oQ⟩
  ·have F:Hid (aX s (n::a)=(s,dR)):=by rw[Hid,←xV (took:=true) (s:=s) R,aX,hn];rfl
   have hl':((ln a:Int)+1==2)=false:=by rw[bfn];omega
   clear R;go_wp2;go_ret;exact⟨⟨_,_,_,by rw[F.oQ];exact z⟩,by rw[F.oQ];rfl,aU.below W.oQ⟩
variable {g d:Nat}{e:Bk}{f:Va}{x:Int}
def MA (D:Nat)(b:Bk)(vn:Value)(g oo:Nat)(x:Int)(s':Bk)(c:Int)(j:Nat)(v:Value)(w:World):Prop:=
 match j with
 |0|1|2|3=>v=(E D 0)
 |4=>v=b.val
 |5=>v=vn
 |6=>v=(E g oo)
 |7=>v=I x
 |8=>∃b':Bk,v=.tuple #[b'.val,I c]/\eI (λk=>k=D) w s' b'
 |9=>∃b':Bk,v=b'.val/\eI (λk=>k=D) w s' b'
 |10=>v=I c
 |_=>True
theorem MA.zL (j:Nat)(v:Va)(w w':Wd)(a:MA D b f g d x e c j v w)(k:aG w w'):MA D b f g d x e c j v w':=by
 unfold MA at*;split at a
 all_goals first
  |exact a
  |(obtain⟨b',h,i⟩:=a;exact⟨b',h,i.zL k⟩)
theorem WM (D:Nat) (w:Wd) (s:St) (b:Bk) (ta:Oa) (tc kk:Nat) (y:o9 D w s b ta tc) (ze:jF kk s) (_hkk:kk<=1000) (n:Ba) (a:List Ba) (K j m:Nat) (P:Xs 1 eE w (some (Y K j)) (n::a)) (hcap:ln a+1<=m) (hlen:ln a+1<=1048570) (_hsz:∀x∈n::a,x.size<=1048575) (hn:n.toList=wB):
 aW 23 #[E D 0,.slice (some (Y K j)) (ln a+1) m] w λe w'=>RO D w (aX s (n::a)) e w':=by
 have c0:=iC P 0 n rfl;rw[naz]at c0;have Q:Xs 1 eE w (some (Y K (j+1))) a:=jN P 1 [n] _ [] sm rfl;go_enter Tryz.func23,Tryz.ntmps23;go_upto_region 1 with fail;go_cut [5,6] (λv5 v6 wx=>v6=.bool (j7 a)/\Hid (j7 a=true->∃a' c',v5=.slice a' (ln (aS a)) c'/\Xs 1 dV wx a' (aS a))/\aG w wx)
 case first=>
  by_cases p:m=1
  ·have ha:a=[]:=enl om;subst ha;subst p;go_wp2_with fail;refine(cC [] (some (Y K j)) 0 w (.inl rfl) sm).mono ?_;rintro e w1 ⟨⟨v1,rfl,i⟩,F⟩;have C:=aI i;clear i;go_wp2;go_meet;exact⟨rfl,C,F⟩
  ·go_wp2_with fail;refine(cC a (some (Y K (j+1))) (m-1) w Q om).mono ?_;rintro e w1 ⟨⟨v1,rfl,i⟩,F⟩;have C:=aI i;clear i;go_wp2;go_meet;exact⟨rfl,C,F⟩
 case rest=>
  obtain⟨rfl,HV,M⟩:=hcut;replace P:=P.zL M;replace c0:=ctq M c0;replace y:=y.zL M;have V:=aI M;clear Q M;by_cases z:ln a=1/\j7 a=true
  ·obtain⟨z,d⟩:=z;obtain⟨G,rfl⟩:∃nm,a=[nm]:=leo.1 z;obtain⟨a1,c1,rfl,zf⟩:=HV.oQ d;rcases zf with h|⟨g,oo,rfl,T⟩;·simp[aS]at h
   have i0:wc.cell? (Y g oo)=some (I (aV G)):=by have:=T 0 (by simp[aS]) 0 _ rfl;simpa[aS]using this
   have e5:ln (aS [G])=1:=rfl;rw[e5,d];have AR:0<=aV G:=by simpa[j7]using d
   obtain⟨x,hx⟩:=bQ (aV G);obtain⟨S,p⟩:=AK s.b x
   have J:Hid (aX s [n,G]=(⟨dN s.b (fK s.b x) (eU s.b x),s.t⟩,jC (cX s.b x))):=by
    rw[Hid,aX,hn,hx];show mZ s [G]=_;rw[mZ,if_pos AR]
   rw[←hx]at i0;obtain⟨c,r⟩:=cI (cX s.b x);have B:Hid (aX s [n,G]=(⟨dN s.b (fK s.b x) (eU s.b x),s.t⟩,jC c)):=by rw[←r];exact J.oQ
   rw[r]at S p;have za:=aI r;have Z:Hid (aU (λk=>k=D) w wc):=aU.below V.oQ;clear r J V hx AR e5 T d z HV P;go_upto_region 16 with fail;refine pG 11 [some 158,some 159,some 160,some 161,some 162,some 163,some 164,some 165,some 166,some 167,some 168] (MA D b (sl g oo 1 c1) g oo x (dN s.b (fK s.b x) (eU s.b x)) c) MA.zL ?step ?fin
   case step=>
    intro ii o U w' zd d v l;obtain⟨z0z,z1z,z2z,z3z⟩:=(y.zL v).c;have z4z:=ctq v i0;match ii,zd with
    |2,_|3,_|4,_|6,_|7,_=>
     cases d;simp[Region.binds,MA]at l;simp only[aD,Act.put,l];gi_wp2;exact⟨_,by simp[aH,l],rfl,br _ _⟩
    |0,_|1,_|5,_=>
     cases d;gi_wp2;exact⟨_,uhx,rfl,br _ _⟩
    |8,_=>
     cases d;simp[Region.binds,MA]at l;simp only[aD,Act.put,l];gi_wp2_with fail;refine tqx ?_;refine(cw.2 (ST (S':=λk=>k=D) (y.zL v).b ze.b x (λk e=>by rw[e];exact iB (y.zL v).o))).mono ?_;rintro e w5 ⟨⟨b',rfl,f⟩,zc⟩;have A:=aI f;clear f;rw[za.oQ];gi_wp2;exact⟨_,by simp[aH,l],⟨b',rfl,A.oQ⟩,zc⟩
    |9,_=>
     cases d;obtain⟨b',L,f⟩:=Zq l 8;have A:=aI f;clear l f;simp only[aD,Act.put,L];gi_wp2;exact⟨_,by simp[aH,L],⟨b',rfl,A.oQ⟩,br _ _⟩
    |10,_=>
     cases d;obtain⟨b',L,f⟩:=Zq l 8;have A:=aI f;clear l f;simp only[aD,Act.put,L];gi_wp2;exact⟨_,by simp[aH,L],rfl,br _ _⟩
    |q+11,h=>omega
   case fin=>
    intro U w8 v W;have e0:U 0=(E D 0):=W 0 dz;obtain⟨b',eb,f⟩:=W 9 dz;have ec:U 10=I c:=W 10 dz;have N:=y.zL v;have H:=aI (Z.oQ.trans (aU.below v));have A:=aI f;clear W v f;simp only[lds,ldz,aD,Act.put];rw[e0,eb,ec];clear e0 eb ec;generalize U=U;gi_wp2_with fail;refine tqx ?_;refine(cw.2 (sM D w8 _ b _ _ N _ b' A.oQ c S p)).mono ?_;rintro e w9 ⟨⟨b9,ta9,tc9,O⟩,rfl,R⟩;have zb:=aI O;have X:=aI (H.oQ.trans R);clear O R H A N;gi_wp2_with fail;go_wp2;go_ret;exact⟨⟨_,_,_,by rw[B.oQ];exact zb.oQ⟩,by rw[B.oQ];rfl,X.oQ⟩
  ·have B:Hid (aX s (n::a)=(s,dR)):=by rw[Hid,←ET (s:=s) z,aX,hn];rfl
   by_cases u:ln a=1
   ·have d:j7 a=false:=by
     cases e:j7 a with
     |false=>rfl
     |true=>exact absurd ⟨u,e⟩ z
    rw[d,u];clear z u HV;go_wp2;go_ret;exact⟨⟨_,_,_,by rw[B.oQ];exact y⟩,by rw[B.oQ];rfl,aU.below V.oQ⟩
   ·have hl':((ln a:Int)+1==2)=false:=by rw[bfn];omega
    clear z u;go_wp2;go_ret;exact⟨⟨_,_,_,by rw[B.oQ];exact y⟩,by rw[B.oQ];rfl,aU.below V.oQ⟩
variable {e:Nat}{f:Bk}{g:Bool}
def MZ (D:Nat)(b:Bk)(vw:Value)(bl off:Nat)(nm:ByteArray)(n:ByteArray)(tk:Bool)(s':Bk)(c:Int)(j:Nat)(v:Value)(w:World):Prop:=
 match j with
 |0|1|2|3=>v=(E D 0)
 |4=>v=b.val
 |5|8=>v=vw
 |6=>v=(E bl (off+1))
 |7=>v=.string nm
 |9=>v=(E bl off)
 |10=>v=.string n
 |11=>v=.bool tk
 |12=>∃b':Bk,v=.tuple #[b'.val,I c]/\eI (λk=>k=D) w s' b'
 |13=>∃b':Bk,v=b'.val/\eI (λk=>k=D) w s' b'
 |14=>v=I c
 |_=>True
theorem MZ.zL (j:Nat)(v:Va)(w w':Wd)(d:MZ D b h e a nm n g f c j v w)(l:aG w w'):MZ D b h e a nm n g f c j v w':=by
 unfold MZ at*;split at d
 all_goals first
  |exact d
  |(obtain⟨b',i,k⟩:=d;exact⟨b',i,k.zL l⟩)
theorem aAA (D:Nat) (w:Wd) (s:St) (b:Bk) (ta:Oa) (tc kk:Nat) (z:o9 D w s b ta tc) (zb:jF kk s) (_hkk:kk<=1000) (n:Ba) (a:List Ba) (y d f:Nat) (B:Xs 1 eE w (some (Y y d)) (n::a)) (hcap:ln a+1<=f) (hlen:ln a+1<=1048570) (_hsz:∀x∈n::a,x.size<=1048575) (hn:n.toList=GH):
 aW 23 #[E D 0,.slice (some (Y y d)) (ln a+1) f] w λe w'=>RO D w (aX s (n::a)) e w':=by
 have Q:=iC B 0 n rfl;rw[naz]at Q;have L:Xs 1 eE w (some (Y y (d+1))) a:=jN B 1 [n] _ [] sm rfl;go_enter Tryz.func23,Tryz.ntmps23;go_upto_region 1 with fail;go_cut [5,6] (λv5 v6 wx=>v6=.bool (j7 a)/\Hid (j7 a=true->∃a' c',v5=.slice a' (ln (aS a)) c'/\Xs 1 dV wx a' (aS a))/\aG w wx)
 case first=>
  by_cases p:f=1
  ·have ha:a=[]:=enl om;subst ha;subst p;go_wp2_with fail;refine(cC [] (some (Y y d)) 0 w (.inl rfl) sm).mono ?_;rintro e w1 ⟨⟨v1,rfl,j⟩,A⟩;have v:=aI j;clear j;go_wp2;go_meet;exact⟨rfl,v,A⟩
  ·go_wp2_with fail;refine(cC a (some (Y y (d+1))) (f-1) w L om).mono ?_;rintro e w1 ⟨⟨v1,rfl,j⟩,A⟩;have v:=aI j;clear j;go_wp2;go_meet;exact⟨rfl,v,A⟩
 case rest=>
  obtain⟨rfl,HV,H⟩:=hcut;replace B:=B.zL H;replace Q:=ctq H Q;replace z:=z.zL H;have W:=aI H;clear L H;by_cases R:ln a=1
  ·obtain⟨nm,rfl⟩:∃nm,a=[nm]:=leo.1 R;have c1:=iC B 1 nm rfl;clear B R HV;obtain⟨N,p⟩:=pC s.b nm;have G:Hid (aX s [n,nm]=(⟨dN s.b s.b.now (dI s.b nm false),s.t⟩,jC (cG s.b nm))):=by rw[Hid,aX,hn];rfl
   obtain⟨c,r⟩:=cI (cG s.b nm);have F:Hid (aX s [n,nm]=(⟨dN s.b s.b.now (dI s.b nm false),s.t⟩,jC c)):=by rw[←r];exact G.oQ
   rw[r]at N p;have V:=aI r;have U:Hid (aU (λk=>k=D) w wc):=aU.below W.oQ;clear r G W;go_upto_region 14 with fail;refine pG 15 [some 129,some 130,some 131,some 132,some 133,some 134,some 135,some 136,some 137,some 138,some 139,some 140,some 141,some 142,some 143] (MZ D b (sl y d 2 f) y d nm n false (dN s.b s.b.now (dI s.b nm false)) c) MZ.zL ?step ?fin
   case step=>
    intro ii o P w' za O m l;obtain⟨z0z,z1z,z2z,z3z⟩:=(z.zL m).c;have z4z:=ctq m c1;have z5z:=ctq m Q;match ii,za with
    |2,_|3,_|4,_|6,_|7,_|9,_|10,_|11,_=>
     cases O;simp[Region.binds,MZ]at l;simp only[aD,Act.put,l];gi_wp2;exact⟨_,by simp[aH,l],rfl,br _ _⟩
    |0,_|1,_|5,_|8,_=>
     cases O;gi_wp2;exact⟨_,uhx,rfl,br _ _⟩
    |12,_=>
     cases O;simp[Region.binds,MZ]at l;simp only[aD,Act.put,l];gi_wp2_with fail;refine tqx ?_;refine(cw.2 (FJ (S':=λk=>k=D) (z.zL m).b zb.b nm false (λk e=>by rw[e];exact iB (z.zL m).o))).mono ?_;rintro e w5 ⟨⟨b',rfl,i⟩,Z⟩;have u:=aI i;clear i;rw[V.oQ];gi_wp2;exact⟨_,by simp[aH,l],⟨b',rfl,u.oQ⟩,Z⟩
    |13,_=>
     cases O;obtain⟨b',g,i⟩:=Zq l 12;have u:=aI i;clear l i;simp only[aD,Act.put,g];gi_wp2;exact⟨_,by simp[aH,g],⟨b',rfl,u.oQ⟩,br _ _⟩
    |14,_=>
     cases O;obtain⟨b',g,i⟩:=Zq l 12;have u:=aI i;clear l i;simp only[aD,Act.put,g];gi_wp2;exact⟨_,by simp[aH,g],rfl,br _ _⟩
    |q+15,h=>omega
   case fin=>
    intro P w8 m S;have e0:P 0=(E D 0):=S 0 dz;obtain⟨b',eb,i⟩:=S 13 dz;have ec:P 14=I c:=S 14 dz;have J:=z.zL m;have C:=aI (U.oQ.trans (aU.below m));have u:=aI i;clear S m i;simp only[lds,ldz,aD,Act.put];rw[e0,eb,ec];clear e0 eb ec;generalize P=P;gi_wp2_with fail;refine tqx ?_;refine(cw.2 (sM D w8 _ b _ _ J _ b' u.oQ c N p)).mono ?_;rintro e w9 ⟨⟨b9,ta9,tc9,K⟩,rfl,M⟩;have X:=aI K;have T:=aI (C.oQ.trans M);clear K M C u J;gi_wp2_with fail;go_wp2;go_ret;exact⟨⟨_,_,_,by rw[F.oQ];exact X.oQ⟩,by rw[F.oQ];rfl,T.oQ⟩
  ·have F:Hid (aX s (n::a)=(s,dR)):=by rw[Hid,←xV (took:=false) (s:=s) R,aX,hn];rfl
   have hl':((ln a:Int)+1==2)=false:=by rw[bfn];omega
   clear R;go_wp2;go_ret;exact⟨⟨_,_,_,by rw[F.oQ];exact z⟩,by rw[F.oQ];rfl,aU.below W.oQ⟩
theorem TK (D:Nat)(w:Wd)(s:St)(b:Bk)(ta:Oa)(m l:Nat)(o:o9 D w s b ta m)(i:jF l s)(h:l<=1000)(q:List Ba)(r:q≠[])(k g f:Nat)(p:Xs 1 eE w (some (Y k g)) q)(c:ln q<=f)(d:ln q<=1048570)(j:∀x∈q,x.size<=1048575):
 aW 23 #[E D 0,.slice (some (Y k g)) (ln q) f] w λe w'=>RO D w (aX s q) e w':=by
 obtain⟨n,a,rfl⟩:=List.exists_cons_of_ne_nil r;by_cases t:n.toList=pV;·exact SD D w s b ta m l o i h n a k g f p c d j t
 by_cases u:n.toList=vU;·exact YL D w s b ta m l o i h n a k g f p c d j u
 by_cases v:n.toList=JD;·exact lineBox D w s b ta m l o i h n a k g f p c d j v
 by_cases y:n.toList=pJ;·exact VD D w s b ta m l o i h n a k g f p c d j y
 by_cases z:n.toList=uZ;·exact WN D w s b ta m l o i h n a k g f p c d j z
 by_cases A:n.toList=GH;·exact aAA D w s b ta m l o i h n a k g f p c d j A
 by_cases B:n.toList=wB;·exact WM D w s b ta m l o i h n a k g f p c d j B
 by_cases C:n.toList=vI;·exact YC D w s b ta m l o i h n a k g f p c d j C
 by_cases F:n.toList=wT;·exact XP D w s b ta m l o i h n a k g f p c d j F
 exact XF D w s b ta m l o i h n a k g f p c d j t u v y z A B C F
variable {w:Wd}{l:List Ba}
theorem st0_spi (D:Nat)(h:w.heap[D]?=some (.cells #[I 0,ms,ms,ms] 70)):o9 D w st0 ⟨0,none,[],0,none,[],0⟩ none 0:=
 ⟨h,⟨⟨rfl,rfl,SO⟩,λ_ _=>⟨.inl rfl,.inl rfl,λx hx=>by cases hx⟩,nlq _,nz _⟩,λ_ _=>.inl rfl⟩
theorem RE (m:Nat)(hm:ln l=m+1):l.getLastD ⟨#[]⟩=l[m]'om:=by
 rw[List.getLastD_eq_getLast?,List.getLast?_eq_getElem?,show(ln l)-1=m from by omega,lge om];rfl
theorem qL (d:Ba)(w:Wd)(yg:d.size<=1000000000):
 aW 6 #[.string d] w λe w'=>e=rt (.string (BX d))/\aG w w':=by
 go_enter Tryz.func6,Tryz.ntmps6
 go_wp2_with fail
 refine(sV d 10 w yg).mono ?_;rintro e w1 ⟨⟨v1,rfl,i⟩,zf⟩;have F:=zX 10 d;have A:=kU 10 d;have y:∀x∈bG 10 d,x.size<=d.size:=λx hx=>pA hx;have j:Hid (fP d=if((bG 10 d).getLastD ⟨#[]⟩).toList=[]then(bG 10 d).dropLast else bG 10 d):=rfl;obtain⟨L,hL⟩:=bQ (bG 10 d);rw[←hL]at i F A y j;clear hL;obtain⟨m,hm⟩:∃m,ln L=m+1:=⟨ln L-1,by have:=lpi.2 F;omega⟩;rw[RE m hm]at j;rw[hm]at i
 obtain⟨g,f,rfl⟩:∃g f,v1=(sl g 0 (m+1) f):=by
  obtain⟨_,⟨_,e⟩|⟨g,f,_,e,_⟩⟩:=i
  ·omega
  ·exact⟨g,f,e⟩
 have hg1:g<w1.heap.size:=(i.lt g rfl).2;have H:m+1<=f:=(vY i).1
 have v:Xs 1 eE w1 (some (Y g 0)) L:=by
  rw[←hm]at i;obtain⟨a,c,e,hx⟩:=sY i
  cases e
  exact hx
 have cl:w1.cell? (Y g m)=some (.string (L[m]'om)):=by
  have:=iC v m (L[m]'om) (by rw[lge])
  simpa using this
 have zx:m<=1000000000:=om
 have zw:m<=f:=om
 have t:=aI zf;have Z:=aI hm;obtain⟨z,hz⟩:=bQ (L[m]'om);rw[←hz]at cl j;clear i zf hz hm
 by_cases s:z.toList=[]
 case' pos=>
  obtain⟨T,u⟩:=bQ (L.take m)
  have M:Hid (fP d=T):=by
   rw[Hid,j.oQ,if_pos s,u,List.dropLast_eq_take]
   congr 1
   have:=Z.oQ;omega
  have l:Hid (ln T=m):=by rw[Hid,u,llt];have:=Z.oQ;omega
  have O:Xs 1 eE w1 (some (Y g 0)) T:=by rw[u];exact v.take m
  have J:∀x∈T,x.size<=d.size:=λx hx=>y x (by rw[u]at hx;exact lmt hx);have V:(z.toList==[])=true:=by rw[s];rfl
  clear u y v Z F A j
  go_upto_region 4 with fail
  clear cl s V H;obtain⟨n,hn⟩:=bQ m;subst hn
 case' neg=>
  obtain⟨T,u⟩:=bQ L;have M:Hid (fP d=T):=by rw[Hid,j.oQ,if_neg s,u]
  have l:Hid (ln T=m+1):=by rw[Hid,u];exact Z.oQ
  have O:Xs 1 eE w1 (some (Y g 0)) T:=by rw[u];exact v
  have J:∀x∈T,x.size<=d.size:=λx hx=>y x (by rw[u]at hx;exact hx);have V:(z.toList==[])=false:=by rw[bfn];exact s
  clear u y v Z F A j
  go_upto_region 4 with fail
  clear cl s V zw;obtain⟨n,hn⟩:=bQ (m+1);rw[←hn]at l H ⊢
  replace zx:n<=1000000001:=om
  clear hn
 all_goals
  by_cases h1:20000<d.size
  ·have HR:Hid (BX d=FS):=if_pos h1
   have zq:decide ((20000:Int)<(d.size:Int))=true:=by rw[dte];omega
   go_wp2
   go_ret;exact⟨by rw[HR.oQ];rfl,t.oQ⟩
  have zq:decide ((20000:Int)<(d.size:Int))=false:=by rw[dfi];omega
  by_cases h2:300<n
  ·have HR:Hid (BX d=FS):=by rw[Hid,BX,if_neg h1,M.oQ,l.oQ,if_pos h2]
   have zr:decide ((300:Int)<(n:Int))=true:=by rw[dte];omega
   go_wp2
   go_ret;exact⟨by rw[HR.oQ];rfl,t.oQ⟩
  have zr:decide ((300:Int)<(n:Int))=false:=by rw[dfi];omega
  have HR:Hid (BX d=(oR T).2):=by rw[Hid,BX,if_neg h1,M.oQ,l.oQ,if_neg h2]
  have zy:=IW T;have C:aG w1 (w1.alloc (.cells #[I 0,ms,ms,ms] 70)):=aC (br _ _) _;have N:Hid (o9 w1.heap.size (w1.alloc (.cells #[I 0,ms,ms,ms] 70)) st0 ⟨0,none,[],0,none,[],0⟩ none 0):=st0_spi _ (wnq w1 _);obtain⟨W0,zd⟩:=cI (w1.alloc (.cells #[I 0,ms,ms,ms] 70));rw[zd]at C N;have zn:=aI (aE t.oQ C);have zs:=O.zL C
  go_upto_region 8 with fail
  obtain⟨D,hD⟩:=bQ w1.heap.size;rw[←hD]at N ⊢;have zu:g≠D:=om
  have yb:w.heap.size<=D:=by have:=t.oQ.size;omega
  clear C O zd hD t;go_wp2
  go_loopw [5,6] (λov iv wr=>∃(k:Nat) (b:Bk) (ta:Oa) (tc:Nat),k<=n/\ov=.string (oR (T.take k)).2/\iv=I k/\Hid (o9 D wr (oR (T.take k)).1 b ta tc)/\Hid (aU (λq=>q=D) W0 wr)) (λ_ iv _=>n-(intOf iv).toNat)
  case atStart=>exact⟨0,_,_,_,nz _,rfl,rfl,N,aU.refl _ _⟩
  case round=>
   obtain⟨k,b,ta,tc,hk,rfl,rfl,HS,W⟩:=hrel;obtain⟨S,zz⟩:=zy k (by rw[l.oQ];exact hk)
   by_cases zv:k<n
   ·have zi:(k:Int)<(n:Int):=om
    have R:k<ln T:=by rw[l.oQ];exact zv
    have c0:wr.cell? (Y g k)=some (.string T[k]):=by
     have:=iC zs k T[k] (by rw[lge]);rw[nza]at this;exact W.oQ.cell (p:=(Y g k)) zu this
    have B:=aI (xC T k R);have yd:=J _ (lgm R);obtain⟨x,hx⟩:=bQ (T[k]);rw[←hx]at c0 B yd;clear hx R;obtain⟨P,hP⟩:=bQ (oR (T.take k));rw[←hP]at HS B S zz ⊢;clear hP;go_wp2_with fail
    refine(sV x 32 wr om).mono ?_;rintro e w2 ⟨⟨v2,rfl,G⟩,Q⟩;have yc:=kU 32 x;have U:=zX 32 x;have zk:∀q∈bG 32 x,q.size<=1048575:=λq hq=>by have:=pA hq;omega
    have o:Hid (oR (T.take (k+1))=((aX P.1 (bG 32 x)).1,P.2++(aX P.1 (bG 32 x)).2++sLf)):=B.oQ;have zj:=yB S (bG 32 x);obtain⟨ws,K⟩:=bQ (bG 32 x);rw[←K]at G yc U zk o zj;clear K B
    obtain⟨g2,za,rfl,zt⟩:∃g f,v2=(sl g 0 (ln ws) f)/\(ln ws)<=f:=by
     obtain⟨_,⟨_,e⟩|⟨g,f,_,e,_,_,h,_⟩⟩:=G
     ·exact absurd (enl e) U
     ·exact⟨g,f,e,h⟩
    have ze:Xs 1 eE w2 (some (Y g2 0)) ws:=by
     obtain⟨a,c,e,hx⟩:=sY G
     cases e
     exact hx
    have zb:=HS.oQ.zL Q;have X:=aI (W.oQ.trans (aU.below Q));clear G Q HS W c0;go_wp2_with fail
    refine(TK D w2 P.1 b ta tc k zb S om ws U g2 0 za ze zt om zk).mono ?_;rintro e w3 ⟨⟨b3,ye,yf,zc⟩,rfl,zg⟩;have zp:=aI zc;have zl:=aI (X.oQ.trans zg);obtain⟨r,hr⟩:=bQ ((aX P.1 ws).2);rw[←hr]at zj o ⊢;clear zc zg X zb ze hr;have g1:¬9223372036854775807<P.2.size+r.size:=om
    have g2':¬9223372036854775807<P.2.size+r.size+1:=om
    go_wp2
    go_roundw
    case rel=>exact⟨k+1,b3,ye,yf,om,by rw[o.oQ],gn,by rw[o.oQ];exact zp.oQ,zl⟩
    case measure=>simp[intOf];omega
   ·have zi:¬(k:Int)<(n:Int):=om
    have zh:T.take k=T:=ltl (by rw[l.oQ];omega);have zm:Hid (aG w wr):=W.oQ.under zn.oQ (nlq _) (λq e=>by rw[e];exact yb);rw[zh];clear zh HS W;go_wp2
    go_ret;exact⟨by rw[HR.oQ];rfl,zm.oQ⟩
