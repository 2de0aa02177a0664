import Derived.Deep.DeepCutAuto
import Derived.Deep.CutBlock
import Derived.Test.YtcdbcliaepcpfaaGreatDoorYb
namespace Go.Proofs.YtcdbcliaepcpfaaGreatDoor
set_option maxRecDepth 100000
set_option maxHeartbeats 8000000
open Go.RowKit Go.BigFrame
def IX (D:Nat)(b:Bk)(vw:Value)(bl off:Nat)(nm:ByteArray)(tv:Value)(s':Bk)(c:Int)(j:Nat)(v:Value)(w:World):Prop:=
 match j with
 |0|1|2|3=>v=.pointer (some ⟨D,0,none⟩)
 |4=>v=b.val
 |5=>v=vw
 |6=>v=.pointer (some ⟨bl,off+1,none⟩)
 |7=>v=.string nm
 |8=>v=tv
 |9=>∃b':Bk,v=.tuple #[b'.val,.int .i64 c]/\dZ (λk=>k=D) w s' b'
 |10=>∃b':Bk,v=b'.val/\dZ (λk=>k=D) w s' b'
 |11=>v=.int .i64 c
 |_=>True
theorem IX.zL {D:Nat}{b:Bk}{h:Value}{e a:Nat}{nm:ByteArray}{g:Value}{f:Bk}{c:Int}(j:Nat)(v:Value)(w w':World)(d:IX D b h e a nm g f c j v w)(l:aF w w'):IX D b h e a nm g f c j v w':=by
 unfold IX at*;split at d
 all_goals first
  |exact d
  |(obtain⟨b',i,k⟩:=d;exact⟨b',i,k.zL l⟩)
theorem QT (D:Nat) (w:World) (s:St) (b:Bk) (ta:Option Addr) (tc kk:Nat) (H:nU D w s b ta tc) (zb:iP kk s) (hkk:kk<=1000) (n:ByteArray) (a:List ByteArray) (y d f:Nat) (I:Xs 1 dS w (some ⟨y,d,none⟩) (n::a)) (hcap:a.length+1<=f) (hlen:a.length+1<=1048570) (_hsz:∀x∈n::a,x.size<=1048575) (hn:n.toList=oI):
 aY 7 #[.pointer (some ⟨D,0,none⟩),.slice (some ⟨y,d,none⟩) (a.length+1) f] w λe w'=>OP D w (aX s (n::a)) e w':=by
 have c0:=gO I 0 n rfl;rw[Nat.add_zero]at c0;have Y:Xs 1 dS w (some ⟨y,d+1,none⟩) a:=i7 I 1 [n] _ [] (by simp) rfl;go_enter Tryz.func7,Tryz.ntmps7;go_upto_region 1 with fail;go_cut [5,6] (λv5 v6 wx=>v6=.bool (jG a)/\Hid (jG a=true->∃a' c',v5=.slice a' (aS a).length c'/\Xs 1 eW wx a' (aS a))/\aF w wx)
 case first=>
  by_cases B:f=1
  ·have ha:a=[]:=List.eq_nil_of_length_eq_zero (by omega);subst ha;subst B;go_wp2_with fail;refine(bW [] (some ⟨y,d,none⟩) 0 w (.inl rfl) (by simp)).mono ?_;rintro e w1 ⟨⟨v1,rfl,r⟩,J⟩;have F:=aG r;clear r;go_wp2;go_meet;exact⟨rfl,F,J⟩
  ·have hc2:1<f:=by omega
   go_wp2_with fail;refine(bW a (some ⟨y,d+1,none⟩) (f-1) w Y (by omega)).mono ?_;rintro e w1 ⟨⟨v1,rfl,r⟩,J⟩;have F:=aG r;clear r;go_wp2;go_meet;exact⟨rfl,F,J⟩
 case rest=>
  obtain⟨rfl,HV,T⟩:=hcut;replace I:=I.zL T;replace c0:=(T.cell (aA c0)).trans c0;replace H:=H.zL T;have HN:=aG T;clear Y T;by_cases hl:a.length=1
  ·obtain⟨nm,rfl⟩:∃nm,a=[nm]:=List.length_eq_one_iff.1 hl;have G:=gO I 1 nm rfl;have HS0:Hid _:=I;clear I hl HV;obtain⟨za,B⟩:=BT s.b nm s.t;have O:Hid (aX s [n,nm]=(⟨dM s.b s.b.now (fX s.b nm s.t),[]⟩,iK (dX s.b nm s.t))):=by rw[Hid,aX,hn];rfl
   obtain⟨c,C⟩:=cK (dX s.b nm s.t);have N:Hid (aX s [n,nm]=(⟨dM s.b s.b.now (fX s.b nm s.t),[]⟩,iK c)):=by rw[←C];exact O.oQ
   rw[C]at za B;have zd:=aG C;clear C O;have m:aF wc (wc.alloc (.cells #[] 56)):=aB (br _ _) _;have i:=H.zL m;obtain⟨K,W⟩:=cK (wc.alloc (.cells #[] 56));rw[W]at i m;obtain⟨q0,q1,q2,q3⟩:=H.c;obtain⟨y0,y1,y2,y3⟩:=i.c;have yf:=i.fz;have l:nU D (K.setCell ⟨D,3,none⟩ (.slice (some ⟨wc.heap.size,0,none⟩) 0 0)) ⟨s.b,[]⟩ b (some ⟨wc.heap.size,0,none⟩) 0:=i.hand (t':=[]) (λ_ _=>.inl rfl);have A:aT (λk=>k=D) K (K.setCell ⟨D,3,none⟩ (.slice (some ⟨wc.heap.size,0,none⟩) 0 0)):=(aT.refl (λk=>k=D) K).set (g:=D) rfl _ _;have P:Hid (jJ (K.setCell ⟨D,3,none⟩ (.slice (some ⟨wc.heap.size,0,none⟩) 0 0)) ta s.t):=i.t _ A;have M:=aG (((aT.below HN.oQ).trans (aT.below m)).trans A);have S:y≠D:=H.ne G;have Q:=(m.cell (aA G)).trans G;replace G:=A.cell (p:=⟨y,d+1,none⟩) S Q;clear i m A;go_upto_region 12 with fail;obtain⟨W1,X⟩:=cK (K.setCell ⟨D,3,none⟩ (.slice (some ⟨wc.heap.size,0,none⟩) 0 0));rw[X]at l P M G ⊢;clear X W y0 y1 y2 y3 yf q0 q1 q2 q3 H S Q;refine pG 12 [some 100,some 101,some 102,some 103,some 104,some 105,some 106,some 107,some 108,some 109,some 110,some 111] (IX D b (.slice (some ⟨y,d,none⟩) 2 f) y d nm (.slice ta s.t.length tc) (dM s.b s.b.now (fX s.b nm s.t)) c) IX.zL ?step ?fin
   case step=>
    intro ii o vs w' zg v z u;obtain⟨z0z,z1z,z2z,z3z⟩:=(l.zL z).c;have z4z:=(z.cell (aA G)).trans G;match ii,zg with
    |2,_|3,_|4,_|6,_|7,_=>
     simp at v;subst v;simp[Region.binds,IX]at u;simp only[aE,Act.put,u];gi_wp2;exact⟨_,by simp[aH,u],rfl,br _ _⟩
    |0,_|1,_|5,_|8,_=>
     simp at v;subst v;simp only[aE,Act.put];gi_wp2;exact⟨_,by simp[aH],rfl,br _ _⟩
    |9,_=>
     simp at v;subst v;simp[Region.binds,IX]at u;simp only[aE,Act.put,u];gi_wp2_with fail;refine⟨trivial,rfl,?_⟩;refine(cw.2 (L8 (S':=λk=>k=D) (l.zL z).b zb.b nm s.t ta tc (P.oQ.zL z) (by have:=zb.t;omega) (λk e=>by rw[e];exact gT (l.zL z).o))).mono ?_;rintro e w5 ⟨⟨b',rfl,j⟩,zf⟩;have E:=aG j;clear j;rw[zd.oQ];gi_wp2;exact⟨_,by simp[aH,u],⟨b',rfl,E.oQ⟩,zf⟩
    |10,_=>
     simp at v;subst v;obtain⟨b',R,j⟩:=Zq u 9;have E:=aG j;clear u j;simp only[aE,Act.put,R];gi_wp2;exact⟨_,by simp[aH,R],⟨b',rfl,E.oQ⟩,br _ _⟩
    |11,_=>
     simp at v;subst v;obtain⟨b',R,j⟩:=Zq u 9;have E:=aG j;clear u j;simp only[aE,Act.put,R];gi_wp2;exact⟨_,by simp[aH,R],rfl,br _ _⟩
    |q+12,h=>exact absurd h (by omega)
   case fin=>
    intro vs w8 z hp;have e0:vs 0=.pointer (some ⟨D,0,none⟩):=hp 0 (by decide);obtain⟨b',eb,j⟩:=hp 10 (by decide);have ec:vs 11=.int .i64 c:=hp 11 (by decide);have U:=l.zL z;have L:=aG (M.oQ.trans (aT.below z));have E:=aG j;clear hp z j;simp only[lds,List.drop_zero,aE,Act.put];rw[e0,eb,ec];clear e0 eb ec;generalize vs=vs;gi_wp2_with fail;refine⟨trivial,rfl,?_⟩;refine(cw.2 (rQ D w8 _ b _ _ U _ b' E.oQ c za B)).mono ?_;rintro e w9 ⟨⟨b9,ta9,tc9,V⟩,rfl,Z⟩;have ze:=aG V;have zc:=aG (L.oQ.trans Z);clear V Z L E U;gi_wp2_with fail;go_wp2;go_ret;exact⟨⟨_,_,_,by rw[N.oQ];exact ze.oQ⟩,by rw[N.oQ];rfl,zc.oQ⟩
  ·have N:Hid (aX s (n::a)=(s,cX)):=by rw[Hid,←zC (s:=s) hl,aX,hn];rfl
   have hl':((a.length:Int)+1==2)=false:=by rw[beq_eq_false_iff_ne];omega
   clear hl;go_wp2;go_ret;exact⟨⟨_,_,_,by rw[N.oQ];exact H⟩,by rw[N.oQ];rfl,aT.below HN.oQ⟩
def IM (D:Nat)(b:Bk)(vw:Value)(bl off:Nat)(nm:ByteArray)(n:ByteArray)(tk:Bool)(s':Bk)(c:Int)(j:Nat)(v:Value)(w:World):Prop:=
 match j with
 |0|1|2|3=>v=.pointer (some ⟨D,0,none⟩)
 |4=>v=b.val
 |5|8=>v=vw
 |6=>v=.pointer (some ⟨bl,off+1,none⟩)
 |7=>v=.string nm
 |9=>v=.pointer (some ⟨bl,off,none⟩)
 |10=>v=.string n
 |11=>v=.bool tk
 |12=>∃b':Bk,v=.tuple #[b'.val,.int .i64 c]/\dZ (λk=>k=D) w s' b'
 |13=>∃b':Bk,v=b'.val/\dZ (λk=>k=D) w s' b'
 |14=>v=.int .i64 c
 |_=>True
theorem IM.zL {D:Nat}{b:Bk}{h:Value}{e a:Nat}{nm:ByteArray}{n:ByteArray}{g:Bool}{f:Bk}{c:Int}(j:Nat)(v:Value)(w w':World)(d:IM D b h e a nm n g f c j v w)(l:aF w w'):IM D b h e a nm n g f c j v w':=by
 unfold IM at*;split at d
 all_goals first
  |exact d
  |(obtain⟨b',i,k⟩:=d;exact⟨b',i,k.zL l⟩)
theorem TC (D:Nat) (w:World) (s:St) (b:Bk) (ta:Option Addr) (tc kk:Nat) (A:nU D w s b ta tc) (Y:iP kk s) (_hkk:kk<=1000) (n:ByteArray) (a:List ByteArray) (z d f:Nat) (B:Xs 1 dS w (some ⟨z,d,none⟩) (n::a)) (hcap:a.length+1<=f) (hlen:a.length+1<=1048570) (_hsz:∀x∈n::a,x.size<=1048575) (hn:n.toList=uN):
 aY 7 #[.pointer (some ⟨D,0,none⟩),.slice (some ⟨z,d,none⟩) (a.length+1) f] w λe w'=>OP D w (aX s (n::a)) e w':=by
 have E:=gO B 0 n rfl;rw[Nat.add_zero]at E;have L:Xs 1 dS w (some ⟨z,d+1,none⟩) a:=i7 B 1 [n] _ [] (by simp) rfl;go_enter Tryz.func7,Tryz.ntmps7;go_upto_region 1 with fail;go_cut [5,6] (λv5 v6 wx=>v6=.bool (jG a)/\Hid (jG a=true->∃Z c',v5=.slice Z (aS a).length c'/\Xs 1 eW wx Z (aS a))/\aF w wx)
 case first=>
  by_cases r:f=1
  ·have ha:a=[]:=List.eq_nil_of_length_eq_zero (by omega);subst ha;subst r;go_wp2_with fail;refine(bW [] (some ⟨z,d,none⟩) 0 w (.inl rfl) (by simp)).mono ?_;rintro e w1 ⟨⟨v1,rfl,j⟩,C⟩;have y:=aG j;clear j;go_wp2;go_meet;exact⟨rfl,y,C⟩
  ·have hc2:1<f:=by omega
   go_wp2_with fail;refine(bW a (some ⟨z,d+1,none⟩) (f-1) w L (by omega)).mono ?_;rintro e w1 ⟨⟨v1,rfl,j⟩,C⟩;have y:=aG j;clear j;go_wp2;go_meet;exact⟨rfl,y,C⟩
 case rest=>
  obtain⟨rfl,HV,I⟩:=hcut;replace B:=B.zL I;replace E:=(I.cell (aA E)).trans E;replace A:=A.zL I;have U:=aG I;clear L I;by_cases P:a.length=1
  ·obtain⟨nm,rfl⟩:∃nm,a=[nm]:=List.length_eq_one_iff.1 P;have c1:=gO B 1 nm rfl;have HS0:Hid _:=B;clear B P HV;obtain⟨N,r⟩:=oC s.b nm;have H:Hid (aX s [n,nm]=(⟨dM s.b s.b.now (dK s.b nm true),s.t⟩,iK (cJ s.b nm))):=by rw[Hid,aX,hn];rfl
   obtain⟨c,u⟩:=cK (cJ s.b nm);have G:Hid (aX s [n,nm]=(⟨dM s.b s.b.now (dK s.b nm true),s.t⟩,iK c)):=by rw[←u];exact H.oQ
   rw[u]at N r;have T:=aG u;have S:Hid (aT (λk=>k=D) w _):=aT.below U.oQ;clear u H U;go_upto_region 14 with fail;refine pG 15 [some 129,some 130,some 131,some 132,some 133,some 134,some 135,some 136,some 137,some 138,some 139,some 140,some 141,some 142,some 143] (IM D b (.slice (some ⟨z,d,none⟩) 2 f) z d nm n true (dM s.b s.b.now (dK s.b nm true)) c) IM.zL ?step ?fin
   case step=>
    intro ii o O w' X m p l;obtain⟨z0z,z1z,z2z,z3z⟩:=(A.zL p).c;have z4z:=(p.cell (aA c1)).trans c1;have z5z:=(p.cell (aA E)).trans E;match ii,X with
    |2,_|3,_|4,_|6,_|7,_|9,_|10,_|11,_=>
     simp at m;subst m;simp[Region.binds,IM]at l;simp only[aE,Act.put,l];gi_wp2;exact⟨_,by simp[aH,l],rfl,br _ _⟩
    |0,_|1,_|5,_|8,_=>
     simp at m;subst m;simp only[aE,Act.put];gi_wp2;exact⟨_,by simp[aH],rfl,br _ _⟩
    |12,_=>
     simp at m;subst m;simp[Region.binds,IM]at l;simp only[aE,Act.put,l];gi_wp2_with fail;refine⟨trivial,rfl,?_⟩;refine(cw.2 (DK (S':=λk=>k=D) (A.zL p).b Y.b nm true (λk e=>by rw[e];exact gT (A.zL p).o))).mono ?_;rintro e w5 ⟨⟨b',rfl,i⟩,W⟩;have v:=aG i;clear i;rw[T.oQ];gi_wp2;exact⟨_,by simp[aH,l],⟨b',rfl,v.oQ⟩,W⟩
    |13,_=>
     simp at m;subst m;obtain⟨b',g,i⟩:=Zq l 12;have v:=aG i;clear l i;simp only[aE,Act.put,g];gi_wp2;exact⟨_,by simp[aH,g],⟨b',rfl,v.oQ⟩,br _ _⟩
    |14,_=>
     simp at m;subst m;obtain⟨b',g,i⟩:=Zq l 12;have v:=aG i;clear l i;simp only[aE,Act.put,g];gi_wp2;exact⟨_,by simp[aH,g],rfl,br _ _⟩
    |q+15,h=>exact absurd h (by omega)
   case fin=>
    intro O w8 p Q;have e0:O 0=.pointer (some ⟨D,0,none⟩):=Q 0 (by decide);obtain⟨b',eb,i⟩:=Q 13 (by decide);have ec:O 14=.int .i64 c:=Q 14 (by decide);have J:=A.zL p;have F:=aG (S.oQ.trans (aT.below p));have v:=aG i;clear Q p i;simp only[lds,List.drop_zero,aE,Act.put];rw[e0,eb,ec];clear e0 eb ec;generalize O=O;gi_wp2_with fail;refine⟨trivial,rfl,?_⟩;refine(cw.2 (rQ D w8 _ b _ _ J _ b' v.oQ c N r)).mono ?_;rintro e w9 ⟨⟨b9,ta9,tc9,K⟩,rfl,M⟩;have V:=aG K;have R:=aG (F.oQ.trans M);clear K M F v J;gi_wp2_with fail;go_wp2;go_ret;exact⟨⟨_,_,_,by rw[G.oQ];exact V.oQ⟩,by rw[G.oQ];rfl,R.oQ⟩
  ·have G:Hid (aX s (n::a)=(s,cX)):=by rw[Hid,←wJ (took:=true) (s:=s) P,aX,hn];rfl
   have hl':((a.length:Int)+1==2)=false:=by rw[beq_eq_false_iff_ne];omega
   clear P;go_wp2;go_ret;exact⟨⟨_,_,_,by rw[G.oQ];exact A⟩,by rw[G.oQ];rfl,aT.below U.oQ⟩
def IOo (D:Nat)(b:Bk)(vn:Value)(g oo:Nat)(x:Int)(s':Bk)(c:Int)(j:Nat)(v:Value)(w:World):Prop:=
 match j with
 |0|1|2|3=>v=.pointer (some ⟨D,0,none⟩)
 |4=>v=b.val
 |5=>v=vn
 |6=>v=.pointer (some ⟨g,oo,none⟩)
 |7=>v=.int .i64 x
 |8=>∃b':Bk,v=.tuple #[b'.val,.int .i64 c]/\dZ (λk=>k=D) w s' b'
 |9=>∃b':Bk,v=b'.val/\dZ (λk=>k=D) w s' b'
 |10=>v=.int .i64 c
 |_=>True
theorem IOo.zL {D:Nat}{b:Bk}{f:Value}{g d:Nat}{x:Int}{e:Bk}{c:Int}(j:Nat)(v:Value)(w w':World)(a:IOo D b f g d x e c j v w)(k:aF w w'):IOo D b f g d x e c j v w':=by
 unfold IOo at*;split at a
 all_goals first
  |exact a
  |(obtain⟨b',h,i⟩:=a;exact⟨b',h,i.zL k⟩)
theorem TM (D:Nat) (w:World) (s:St) (b:Bk) (ta:Option Addr) (tc kk:Nat) (y:nU D w s b ta tc) (zc:iP kk s) (_hkk:kk<=1000) (n:ByteArray) (a:List ByteArray) (I l f:Nat) (N:Xs 1 dS w (some ⟨I,l,none⟩) (n::a)) (hcap:a.length+1<=f) (hlen:a.length+1<=1048570) (_hsz:∀x∈n::a,x.size<=1048575) (hn:n.toList=tW):
 aY 7 #[.pointer (some ⟨D,0,none⟩),.slice (some ⟨I,l,none⟩) (a.length+1) f] w λe w'=>OP D w (aX s (n::a)) e w':=by
 have U:=gO N 0 n rfl;rw[Nat.add_zero]at U;have O:Xs 1 dS w (some ⟨I,l+1,none⟩) a:=i7 N 1 [n] _ [] (by simp) rfl;go_enter Tryz.func7,Tryz.ntmps7;go_upto_region 1 with fail;go_cut [5,6] (λv5 v6 wx=>v6=.bool (jG a)/\Hid (jG a=true->∃a' c',v5=.slice a' (aS a).length c'/\Xs 1 eW wx a' (aS a))/\aF w wx)
 case first=>
  by_cases p:f=1
  ·have ha:a=[]:=List.eq_nil_of_length_eq_zero (by omega);subst ha;subst p;go_wp2_with fail;refine(bW [] (some ⟨I,l,none⟩) 0 w (.inl rfl) (by simp)).mono ?_;rintro e w1 ⟨⟨v1,rfl,j⟩,E⟩;have C:=aG j;clear j;go_wp2;go_meet;exact⟨rfl,C,E⟩
  ·have hc2:1<f:=by omega
   go_wp2_with fail;refine(bW a (some ⟨I,l+1,none⟩) (f-1) w O (by omega)).mono ?_;rintro e w1 ⟨⟨v1,rfl,j⟩,E⟩;have C:=aG j;clear j;go_wp2;go_meet;exact⟨rfl,C,E⟩
 case rest=>
  obtain⟨rfl,HV,K⟩:=hcut;replace N:=N.zL K;replace U:=(K.cell (aA U)).trans U;replace y:=y.zL K;have T:=aG K;clear O K;by_cases z:a.length=1/\jG a=true
  ·obtain⟨z,d⟩:=z;obtain⟨F,rfl⟩:∃nm,a=[nm]:=List.length_eq_one_iff.1 z;obtain⟨a1,c1,rfl,zd⟩:=HV.oQ d;rcases zd with h|⟨g,oo,rfl,R⟩;·simp[aS]at h
   have i0:wc.cell? ⟨g,oo,none⟩=some (.int .i64 (aV F)):=by have:=R 0 (by simp[aS]) 0 _ rfl;simpa[aS]using this
   have e5:(aS [F]).length=1:=rfl;rw[e5,d];have N7:0<=aV F:=by simpa[jG]using d
   obtain⟨x,hx⟩:=bP (aV F);obtain⟨Q,p⟩:=AF s.b x
   have H:Hid (aX s [n,F]=(⟨dM s.b (fF s.b x) (eR s.b x),s.t⟩,iK (cV s.b x))):=by
    rw[Hid,aX,hn,hx];show lT s [F]=_;rw[lT,if_pos N7]
   rw[←hx]at i0;obtain⟨c,r⟩:=cK (cV s.b x);have B:Hid (aX s [n,F]=(⟨dM s.b (fF s.b x) (eR s.b x),s.t⟩,iK c)):=by rw[←r];exact H.oQ
   rw[r]at Q p;have Y:=aG r;have X:Hid (aT (λk=>k=D) w _):=aT.below T.oQ;clear r H T hx N7 e5 R d z HV N;go_upto_region 16 with fail;refine pG 11 [some 158,some 159,some 160,some 161,some 162,some 163,some 164,some 165,some 166,some 167,some 168] (IOo D b (.slice (some ⟨g,oo,none⟩) 1 c1) g oo x (dM s.b (fF s.b x) (eR s.b x)) c) IOo.zL ?step ?fin
   case step=>
    intro ii o S w' zb d v m;obtain⟨z0z,z1z,z2z,z3z⟩:=(y.zL v).c;have z4z:=(v.cell (aA i0)).trans i0;match ii,zb with
    |2,_|3,_|4,_|6,_|7,_=>
     simp at d;subst d;simp[Region.binds,IOo]at m;simp only[aE,Act.put,m];gi_wp2;exact⟨_,by simp[aH,m],rfl,br _ _⟩
    |0,_|1,_|5,_=>
     simp at d;subst d;simp only[aE,Act.put];gi_wp2;exact⟨_,by simp[aH],rfl,br _ _⟩
    |8,_=>
     simp at d;subst d;simp[Region.binds,IOo]at m;simp only[aE,Act.put,m];gi_wp2_with fail;refine⟨trivial,rfl,?_⟩;refine(cw.2 (PB (S':=λk=>k=D) (y.zL v).b zc.b x (λk e=>by rw[e];exact gT (y.zL v).o))).mono ?_;rintro e w5 ⟨⟨b',rfl,i⟩,za⟩;have A:=aG i;clear i;rw[Y.oQ];gi_wp2;exact⟨_,by simp[aH,m],⟨b',rfl,A.oQ⟩,za⟩
    |9,_=>
     simp at d;subst d;obtain⟨b',J,i⟩:=Zq m 8;have A:=aG i;clear m i;simp only[aE,Act.put,J];gi_wp2;exact⟨_,by simp[aH,J],⟨b',rfl,A.oQ⟩,br _ _⟩
    |10,_=>
     simp at d;subst d;obtain⟨b',J,i⟩:=Zq m 8;have A:=aG i;clear m i;simp only[aE,Act.put,J];gi_wp2;exact⟨_,by simp[aH,J],rfl,br _ _⟩
    |q+11,h=>exact absurd h (by omega)
   case fin=>
    intro S w8 v V;have e0:S 0=.pointer (some ⟨D,0,none⟩):=V 0 (by decide);obtain⟨b',eb,i⟩:=V 9 (by decide);have ec:S 10=.int .i64 c:=V 10 (by decide);have L:=y.zL v;have G:=aG (X.oQ.trans (aT.below v));have A:=aG i;clear V v i;simp only[lds,List.drop_zero,aE,Act.put];rw[e0,eb,ec];clear e0 eb ec;generalize S=S;gi_wp2_with fail;refine⟨trivial,rfl,?_⟩;refine(cw.2 (rQ D w8 _ b _ _ L _ b' A.oQ c Q p)).mono ?_;rintro e w9 ⟨⟨b9,ta9,tc9,M⟩,rfl,P⟩;have Z:=aG M;have W:=aG (G.oQ.trans P);clear M P G A L;gi_wp2_with fail;go_wp2;go_ret;exact⟨⟨_,_,_,by rw[B.oQ];exact Z.oQ⟩,by rw[B.oQ];rfl,W.oQ⟩
  ·have B:Hid (aX s (n::a)=(s,cX)):=by rw[Hid,←DF (s:=s) z,aX,hn];rfl
   by_cases u:a.length=1
   ·have d:jG a=false:=by
     cases e:jG a with
     |false=>rfl
     |true=>exact absurd ⟨u,e⟩ z
    rw[d,u];clear z u HV;go_wp2;go_ret;exact⟨⟨_,_,_,by rw[B.oQ];exact y⟩,by rw[B.oQ];rfl,aT.below T.oQ⟩
   ·have hl':((a.length:Int)+1==2)=false:=by rw[beq_eq_false_iff_ne];omega
    clear z u;go_wp2;go_ret;exact⟨⟨_,_,_,by rw[B.oQ];exact y⟩,by rw[B.oQ];rfl,aT.below T.oQ⟩
def JP (D:Nat)(b:Bk)(vw:Value)(bl off:Nat)(nm:ByteArray)(n:ByteArray)(tk:Bool)(s':Bk)(c:Int)(j:Nat)(v:Value)(w:World):Prop:=
 match j with
 |0|1|2|3=>v=.pointer (some ⟨D,0,none⟩)
 |4=>v=b.val
 |5|8=>v=vw
 |6=>v=.pointer (some ⟨bl,off+1,none⟩)
 |7=>v=.string nm
 |9=>v=.pointer (some ⟨bl,off,none⟩)
 |10=>v=.string n
 |11=>v=.bool tk
 |12=>∃b':Bk,v=.tuple #[b'.val,.int .i64 c]/\dZ (λk=>k=D) w s' b'
 |13=>∃b':Bk,v=b'.val/\dZ (λk=>k=D) w s' b'
 |14=>v=.int .i64 c
 |_=>True
theorem JP.zL {D:Nat}{b:Bk}{h:Value}{e a:Nat}{nm:ByteArray}{n:ByteArray}{g:Bool}{f:Bk}{c:Int}(j:Nat)(v:Value)(w w':World)(d:JP D b h e a nm n g f c j v w)(l:aF w w'):JP D b h e a nm n g f c j v w':=by
 unfold JP at*;split at d
 all_goals first
  |exact d
  |(obtain⟨b',i,k⟩:=d;exact⟨b',i,k.zL l⟩)
theorem V5 (D:Nat) (w:World) (s:St) (b:Bk) (ta:Option Addr) (tc kk:Nat) (A:nU D w s b ta tc) (Y:iP kk s) (_hkk:kk<=1000) (n:ByteArray) (a:List ByteArray) (z d f:Nat) (B:Xs 1 dS w (some ⟨z,d,none⟩) (n::a)) (hcap:a.length+1<=f) (hlen:a.length+1<=1048570) (_hsz:∀x∈n::a,x.size<=1048575) (hn:n.toList=FK):
 aY 7 #[.pointer (some ⟨D,0,none⟩),.slice (some ⟨z,d,none⟩) (a.length+1) f] w λe w'=>OP D w (aX s (n::a)) e w':=by
 have E:=gO B 0 n rfl;rw[Nat.add_zero]at E;have L:Xs 1 dS w (some ⟨z,d+1,none⟩) a:=i7 B 1 [n] _ [] (by simp) rfl;go_enter Tryz.func7,Tryz.ntmps7;go_upto_region 1 with fail;go_cut [5,6] (λv5 v6 wx=>v6=.bool (jG a)/\Hid (jG a=true->∃Z c',v5=.slice Z (aS a).length c'/\Xs 1 eW wx Z (aS a))/\aF w wx)
 case first=>
  by_cases r:f=1
  ·have ha:a=[]:=List.eq_nil_of_length_eq_zero (by omega);subst ha;subst r;go_wp2_with fail;refine(bW [] (some ⟨z,d,none⟩) 0 w (.inl rfl) (by simp)).mono ?_;rintro e w1 ⟨⟨v1,rfl,j⟩,C⟩;have y:=aG j;clear j;go_wp2;go_meet;exact⟨rfl,y,C⟩
  ·have hc2:1<f:=by omega
   go_wp2_with fail;refine(bW a (some ⟨z,d+1,none⟩) (f-1) w L (by omega)).mono ?_;rintro e w1 ⟨⟨v1,rfl,j⟩,C⟩;have y:=aG j;clear j;go_wp2;go_meet;exact⟨rfl,y,C⟩
 case rest=>
  obtain⟨rfl,HV,I⟩:=hcut;replace B:=B.zL I;replace E:=(I.cell (aA E)).trans E;replace A:=A.zL I;have U:=aG I;clear L I;by_cases P:a.length=1
  ·obtain⟨nm,rfl⟩:∃nm,a=[nm]:=List.length_eq_one_iff.1 P;have c1:=gO B 1 nm rfl;have HS0:Hid _:=B;clear B P HV;obtain⟨N,r⟩:=oC s.b nm;have H:Hid (aX s [n,nm]=(⟨dM s.b s.b.now (dK s.b nm false),s.t⟩,iK (cJ s.b nm))):=by rw[Hid,aX,hn];rfl
   obtain⟨c,u⟩:=cK (cJ s.b nm);have G:Hid (aX s [n,nm]=(⟨dM s.b s.b.now (dK s.b nm false),s.t⟩,iK c)):=by rw[←u];exact H.oQ
   rw[u]at N r;have T:=aG u;have S:Hid (aT (λk=>k=D) w _):=aT.below U.oQ;clear u H U;go_upto_region 14 with fail;refine pG 15 [some 129,some 130,some 131,some 132,some 133,some 134,some 135,some 136,some 137,some 138,some 139,some 140,some 141,some 142,some 143] (JP D b (.slice (some ⟨z,d,none⟩) 2 f) z d nm n false (dM s.b s.b.now (dK s.b nm false)) c) JP.zL ?step ?fin
   case step=>
    intro ii o O w' X m p l;obtain⟨z0z,z1z,z2z,z3z⟩:=(A.zL p).c;have z4z:=(p.cell (aA c1)).trans c1;have z5z:=(p.cell (aA E)).trans E;match ii,X with
    |2,_|3,_|4,_|6,_|7,_|9,_|10,_|11,_=>
     simp at m;subst m;simp[Region.binds,JP]at l;simp only[aE,Act.put,l];gi_wp2;exact⟨_,by simp[aH,l],rfl,br _ _⟩
    |0,_|1,_|5,_|8,_=>
     simp at m;subst m;simp only[aE,Act.put];gi_wp2;exact⟨_,by simp[aH],rfl,br _ _⟩
    |12,_=>
     simp at m;subst m;simp[Region.binds,JP]at l;simp only[aE,Act.put,l];gi_wp2_with fail;refine⟨trivial,rfl,?_⟩;refine(cw.2 (DK (S':=λk=>k=D) (A.zL p).b Y.b nm false (λk e=>by rw[e];exact gT (A.zL p).o))).mono ?_;rintro e w5 ⟨⟨b',rfl,i⟩,W⟩;have v:=aG i;clear i;rw[T.oQ];gi_wp2;exact⟨_,by simp[aH,l],⟨b',rfl,v.oQ⟩,W⟩
    |13,_=>
     simp at m;subst m;obtain⟨b',g,i⟩:=Zq l 12;have v:=aG i;clear l i;simp only[aE,Act.put,g];gi_wp2;exact⟨_,by simp[aH,g],⟨b',rfl,v.oQ⟩,br _ _⟩
    |14,_=>
     simp at m;subst m;obtain⟨b',g,i⟩:=Zq l 12;have v:=aG i;clear l i;simp only[aE,Act.put,g];gi_wp2;exact⟨_,by simp[aH,g],rfl,br _ _⟩
    |q+15,h=>exact absurd h (by omega)
   case fin=>
    intro O w8 p Q;have e0:O 0=.pointer (some ⟨D,0,none⟩):=Q 0 (by decide);obtain⟨b',eb,i⟩:=Q 13 (by decide);have ec:O 14=.int .i64 c:=Q 14 (by decide);have J:=A.zL p;have F:=aG (S.oQ.trans (aT.below p));have v:=aG i;clear Q p i;simp only[lds,List.drop_zero,aE,Act.put];rw[e0,eb,ec];clear e0 eb ec;generalize O=O;gi_wp2_with fail;refine⟨trivial,rfl,?_⟩;refine(cw.2 (rQ D w8 _ b _ _ J _ b' v.oQ c N r)).mono ?_;rintro e w9 ⟨⟨b9,ta9,tc9,K⟩,rfl,M⟩;have V:=aG K;have R:=aG (F.oQ.trans M);clear K M F v J;gi_wp2_with fail;go_wp2;go_ret;exact⟨⟨_,_,_,by rw[G.oQ];exact V.oQ⟩,by rw[G.oQ];rfl,R.oQ⟩
  ·have G:Hid (aX s (n::a)=(s,cX)):=by rw[Hid,←wJ (took:=false) (s:=s) P,aX,hn];rfl
   have hl':((a.length:Int)+1==2)=false:=by rw[beq_eq_false_iff_ne];omega
   clear P;go_wp2;go_ret;exact⟨⟨_,_,_,by rw[G.oQ];exact A⟩,by rw[G.oQ];rfl,aT.below U.oQ⟩
def WW (D:Nat)(vw:Value)(bl off:Nat)(nm xw:ByteArray)(x:Int)(j:Nat)(v:Value)(_w:World):Prop:=
 match j with
 |0=>v=.pointer (some ⟨D,0,none⟩)
 |1|4=>v=vw
 |2=>v=.pointer (some ⟨bl,off+1,none⟩)
 |3=>v=.string nm
 |5=>v=.pointer (some ⟨bl,off+2,none⟩)
 |6=>v=.string xw
 |7=>v=.int .i64 x
 |_=>True
theorem wQ {s:St}{a:List ByteArray}(h:¬a.length=2):mY s a=(s,cX):=by
 unfold mY;split;·simp at h
 ·rfl
theorem Z3 {a:List ByteArray}(h:a.length=2):∃b c,a=[b,c]:=by
 match a,h with
 |[b,c],_=>exact⟨b,c,rfl⟩
theorem TR (D:Nat) (w:World) (s:St) (b:Bk) (ta:Option Addr) (tc S:Nat) (F:nU D w s b ta tc) (Q:iP S s) (hkk:S<=1000) (n:ByteArray) (a:List ByteArray) (m d f:Nat) (r:Xs 1 dS w (some ⟨m,d,none⟩) (n::a)) (hcap:a.length+1<=f) (hlen:a.length+1<=1048570) (_hsz:∀x∈n::a,x.size<=1048575) (hn:n.toList=uR):
 aY 7 #[.pointer (some ⟨D,0,none⟩),.slice (some ⟨m,d,none⟩) (a.length+1) f] w λe w'=>OP D w (aX s (n::a)) e w':=by
 have H:=gO r 0 n rfl;rw[Nat.add_zero]at H;have G:Xs 1 dS w (some ⟨m,d+1,none⟩) a:=i7 r 1 [n] _ [] (by simp) rfl;go_enter Tryz.func7,Tryz.ntmps7;go_upto_region 1 with fail;go_cut [5,6] (λv5 v6 wx=>v6=.bool (jG a)/\Hid (jG a=true->∃U c',v5=.slice U (aS a).length c'/\Xs 1 eW wx U (aS a))/\aF w wx)
 case first=>
  by_cases O:f=1
  ·have ha:a=[]:=List.eq_nil_of_length_eq_zero (by omega);subst ha;subst O;go_wp2_with fail;refine(bW [] (some ⟨m,d,none⟩) 0 w (.inl rfl) (by simp)).mono ?_;rintro e T ⟨⟨v1,rfl,g⟩,u⟩;have k:=aG g;clear g;go_wp2;go_meet;exact⟨rfl,k,u⟩
  ·have hc2:1<f:=by omega
   go_wp2_with fail;refine(bW a (some ⟨m,d+1,none⟩) (f-1) w G (by omega)).mono ?_;rintro e T ⟨⟨v1,rfl,g⟩,u⟩;have k:=aG g;clear g;go_wp2;go_meet;exact⟨rfl,k,u⟩
 case rest=>
  obtain⟨rfl,HV,E⟩:=hcut;replace r:=r.zL E;replace H:=(E.cell (aA H)).trans H;replace F:=F.zL E;have L:=aG E;clear G E;by_cases I:a.length=2
  ·obtain⟨nm,i,rfl⟩:=Z3 I;have V:=gO r 1 nm rfl;have W:=gO r 2 i rfl;have c:Hid (aX s [n,nm,i]=if 0<=aV i then(s,mS s.b nm s.t (aV i))else(s,cX)):=by rw[Hid,aX,hn];rfl
   obtain⟨x,hx⟩:=cK (aV i);have l:=aG hx;rw[hx]at c;clear hx I HV r;by_cases N7:0<=x
   ·have j:Hid (aX s [n,nm,i]=(s,mS s.b nm s.t x)):=by rw[Hid,c.oQ,if_pos N7]
    have R:decide (0<=x)=true:=decide_eq_true N7;clear c;go_wp2_with fail;refine(mM i wc).mono ?_;rintro e T ⟨rfl,rfl⟩;rw[l.oQ];go_upto_region 20 with fail;refine pG 8 [some 199,some 200,some 201,some 202,some 203,some 204,some 205,some 206] (WW D (.slice (some ⟨m,d,none⟩) 3 f) m d nm i x) (λ_ _ _ _ h _=>h) ?step ?fin
    case step=>
     intro ii o B w' P A y z;have z0z:=(y.cell (aA V)).trans V;have z1z:=(y.cell (aA W)).trans W;match ii,P with
     |2,_|3,_|5,_|6,_=>
      simp at A;subst A;simp[Region.binds,WW]at z;simp only[aE,Act.put,z];gi_wp2;exact⟨_,by simp[aH,z],rfl,br _ _⟩
     |0,_|1,_|4,_=>
      simp at A;subst A;simp only[aE,Act.put];gi_wp2;exact⟨_,by simp[aH],rfl,br _ _⟩
     |7,_=>
      simp at A;subst A;simp[Region.binds,WW]at z;simp only[aE,Act.put,z];gi_wp2_with fail;refine⟨trivial,rfl,?_⟩;refine(cw.2 (mM i w')).mono ?_;rintro e w5 ⟨rfl,rfl⟩;rw[l.oQ];have N:=br w5.heap.size w5;gi_wp2;exact⟨_,by simp[aH,z],rfl,N⟩
     |q+8,h=>exact absurd h (by omega)
    case fin=>
     intro B w8 y J;have X:B 0=.pointer (some ⟨D,0,none⟩):=J 0 (by decide);have Y:B 3=.string nm:=J 3 (by decide);have Z:B 7=.int .i64 x:=J 7 (by decide);have p:=F.zL y;have C:=aG (aC L.oQ y);clear J y;simp only[lds,List.drop_zero,aE,Act.put];rw[X,Y,Z];clear X Y Z;generalize B=B;gi_wp2_with fail;refine⟨trivial,rfl,?_⟩;refine(cw.2 (RL D w8 s b ta tc S nm x p Q (by omega))).mono ?_;rintro e w9 ⟨rfl,v⟩;have M:=aG (p.zL v);have K:=aG (aC C.oQ v);clear v C p;gi_wp2_with fail;go_wp2;go_ret;exact⟨⟨_,_,_,by rw[j.oQ];exact M.oQ⟩,by rw[j.oQ];rfl,aT.below K.oQ⟩
   ·have j:Hid (aX s [n,nm,i]=(s,cX)):=by rw[Hid,c.oQ,if_neg N7]
    have R:decide (0<=x)=false:=decide_eq_false N7;clear c;go_wp2_with fail;refine(mM i wc).mono ?_;rintro e T ⟨rfl,rfl⟩;rw[l.oQ];go_wp2;go_ret;exact⟨⟨_,_,_,by rw[j.oQ];exact F⟩,by rw[j.oQ];rfl,aT.below L.oQ⟩
  ·have j:Hid (aX s (n::a)=(s,cX)):=by rw[Hid,←wQ (s:=s) I,aX,hn];rfl
   have hl':((a.length:Int)+1==3)=false:=by rw[beq_eq_false_iff_ne];omega
   clear I;go_wp2;go_ret;exact⟨⟨_,_,_,by rw[j.oQ];exact F⟩,by rw[j.oQ];rfl,aT.below L.oQ⟩
end Go.Proofs.YtcdbcliaepcpfaaGreatDoor
