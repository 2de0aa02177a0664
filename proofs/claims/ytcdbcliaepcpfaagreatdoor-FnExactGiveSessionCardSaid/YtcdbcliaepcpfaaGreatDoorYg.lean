import Derived.Deep.DeepCutAuto
import Derived.Deep.CutBlock
import Derived.Test.YtcdbcliaepcpfaaGreatDoorYb
namespace Go.Proofs.YtcdbcliaepcpfaaGreatDoor
set_option maxRecDepth 100000
set_option maxHeartbeats 8000000
open Go.RowKit Go.BigFrame
def KQ (D:Nat)(tv vn:Value)(g oo:Nat)(y:Bx)(t:List Bx)(Z:Nat)(j:Nat)(vs:Nat->Value)(w:World):Prop:=
 match j with
 |0=>vs 0=.pointer (some ⟨D,0,none⟩)
 |1=>vs 1=.pointer (some ⟨D,0,none⟩)
 |2=>vs 2=.pointer (some ⟨D,0,none⟩)
 |3=>vs 3=.pointer (some ⟨D,3,none⟩)
 |4=>vs 4=tv
 |6=>vs 6=vn
 |7=>vs 7=.pointer (some ⟨g,oo,none⟩)
 |8=>vs 8=.int .i64 y.x
 |9=>vs 9=vn
 |10=>vs 10=.pointer (some ⟨g,oo+1,none⟩)
 |11=>vs 11=.int .i64 y.y
 |12=>vs 12=vn
 |13=>vs 13=.pointer (some ⟨g,oo+2,none⟩)
 |14=>vs 14=.int .i64 y.lo
 |15=>vs 15=vn
 |16=>vs 16=.pointer (some ⟨g,oo+3,none⟩)
 |17=>vs 17=.int .i64 y.hi
 |18=>vs 18=vn
 |19=>vs 19=.pointer (some ⟨g,oo+4,none⟩)
 |20=>vs 20=.int .i64 y.i
 |21=>vs 21=vn
 |22=>vs 22=.pointer (some ⟨g,oo+5,none⟩)
 |23=>vs 23=.int .i64 y.o
 |24=>vs 24=.agg #[.int .i64 y.x,.int .i64 y.y,.int .i64 y.lo,.int .i64 y.hi,.int .i64 y.i,.int .i64 y.o]
 |5=>w.ownsRow Z 56 6 (vs 5) t.length (fA t)
 |25=>∃p,vs 25=.slice (some ⟨p,0,none⟩) 1 1/\w.heap[p]?=some (.cells #[.int .i64 y.x,.int .i64 y.y,.int .i64 y.lo,.int .i64 y.hi,.int .i64 y.i,.int .i64 y.o] 56)
 |_=>True
theorem KQ.zL {D:Nat}{c d:Value}{g b:Nat}{y:Bx}{t:List Bx}{Z:Nat}(j:Nat)(e:Nat->Value)(w w':World)(h:KQ D c d g b y t Z j e w)(a:aF w w'):KQ D c d g b y t Z j e w':=by
 unfold KQ at*;split at h
 all_goals first
  |exact h
  |exact eO h a
  |(obtain⟨p,f,i⟩:=h;exact⟨p,f,bJ i a⟩)
def XK (j:Nat):List Nat:=[j]
def TW (j:Nat):Bool:=j==0
theorem KQ.loc {D:Nat}{d f:Value}{g c:Nat}{y:Bx}{t:List Bx}{Z:Nat}(j:Nat)(b a:Nat->Value)(w:World)(i:∀q∈XK j,b q=a q)(h:KQ D d f g c y t Z j b w):KQ D d f g c y t Z j a w:=by
 have e:b j=a j:=i j (by simp[XK]);unfold KQ at*;split at h
 all_goals first
  |(rw[←e];exact h)
  |trivial
def YH (D:Nat)(_:Nat)(v:Value):Prop:=v=.pointer (some ⟨D,0,none⟩)
theorem KQ.free {D:Nat}{d e:Value}{g c:Nat}{y:Bx}{t:List Bx}{Z:Nat}(j:Nat)(b:Nat->Value)(w:World)(a:TW j=true)(h:KQ D d e g c y t Z j b w):YH D j (b j):=by
 simp[TW]at a;subst a;exact h
structure Z7 (W:World)(D:Nat)(y:Bx)(t:List Bx)(k:Nat)(vs:Nat->Value)(w':World):Prop where
 a:k=26->aF W w'/\w'.ownsRow W.heap.size 56 6 (vs 5) t.length (fA t)/\∃p,vs 25=.slice (some ⟨p,0,none⟩) 1 1/\w'.heap[p]?=some (.cells #[.int .i64 y.x,.int .i64 y.y,.int .i64 y.lo,.int .i64 y.hi,.int .i64 y.i,.int .i64 y.o] 56)
 b:27<=k->aF W w'/\w'.ownsRow W.heap.size 56 6 (vs 26) (t.length+1) (fA t++aR y)
 c:28<=k->vs 27=.pointer (some ⟨D,0,none⟩)
 d:29<=k->vs 28=.pointer (some ⟨D,3,none⟩)
theorem RY {w:World}{base base' e sz:Nat}{v:Value}{m:Nat}{xs:List Value}(h:w.ownsRow base e sz v m xs)(hb:base'<=base):w.ownsRow base' e sz v m xs:=by
 obtain⟨c,h|⟨g,a,b,d,h2,f⟩⟩:=h;·exact⟨c,.inl h⟩
 ·exact⟨c,.inr ⟨g,a,b,d,by omega,f⟩⟩
theorem AJ {s:St}{a:List ByteArray}(h:¬(a.length=6/\jG a=true)):uE s a=(s,cX):=by
 unfold uE;split
 ·split
  ·rename_i hx;exact absurd ⟨rfl,hx⟩ h
  ·rfl
 ·rfl
theorem ZW {a:List ByteArray}(h:a.length=6):∃b c d e f g,a=[b,c,d,e,f,g]:=by
 match a,h with
 |[b,c,d,e,f,g],_=>exact⟨b,c,d,e,f,g,rfl⟩
theorem QC {S:Nat->Prop}{w:World}{z n:Nat}{a:Option Addr}{c:Nat}{l:List Bx}(g:n=l.length)(h:w.ownsRow z 56 6 (.slice a n c) n (fA l))(d:∀k,S k->k<z):∀w',aT S w w'->jJ w' a l:=λw' e=>by
 subst g;have b:w'.ownsRow z 56 6 (.slice a l.length c) l.length (fA l):=i6 h (λk cs hz f=>e.block k (gT f) (λi=>by have:=d k i;omega));exact(aP.of_owns b).xs
theorem VR (D:Nat) (w:World) (s:St) (b:Bk) (ta:Option Addr) (tc kk:Nat) (M:nU D w s b ta tc) (zq:iP kk s) (hkk:kk<=1000) (n:ByteArray) (a:List ByteArray) (bl J C:Nat) (hX:Xs 1 dS w (some ⟨bl,J,none⟩) (n::a)) (hcap:a.length+1<=C) (hlen:a.length+1<=1048570) (_hsz:∀x∈n::a,x.size<=1048575) (hn:n.toList=FI):
 aY 7 #[.pointer (some ⟨D,0,none⟩),.slice (some ⟨bl,J,none⟩) (a.length+1) C] w λe w'=>OP D w (aX s (n::a)) e w':=by
 obtain⟨ib,zp,zl,G,zm⟩:=info_parts Tryz.info56;have c0:=gO hX 0 n rfl;rw[Nat.add_zero]at c0;have zd:Xs 1 dS w (some ⟨bl,J+1,none⟩) a:=i7 hX 1 [n] _ [] (by simp) rfl;go_enter Tryz.func7,Tryz.ntmps7;go_upto_region 1 with fail;go_cut [5,6] (λv5 v6 wx=>v6=.bool (jG a)/\Hid (jG a=true->∃a' c',v5=.slice a' (aS a).length c'/\Xs 1 eW wx a' (aS a))/\aF w wx)
 case first=>
  by_cases zo:C=1
  ·have ha:a=[]:=List.eq_nil_of_length_eq_zero (by omega);subst ha;subst zo;go_wp2_with fail;refine(bW [] (some ⟨bl,J,none⟩) 0 w (.inl rfl) (by simp)).mono ?_;rintro e w1 ⟨⟨v1,rfl,I⟩,G⟩;have T:=aG I;clear I;go_wp2;go_meet;exact⟨rfl,T,G⟩
  ·have hc2:1<C:=by omega
   go_wp2_with fail;refine(bW a (some ⟨bl,J+1,none⟩) (C-1) w zd (by omega)).mono ?_;rintro e w1 ⟨⟨v1,rfl,I⟩,G⟩;have T:=aG I;clear I;go_wp2;go_meet;exact⟨rfl,T,G⟩
 case rest=>
  obtain⟨rfl,HV,hN⟩:=hcut;replace hX:=hX.zL hN;replace c0:=(hN.cell (aA c0)).trans c0;replace M:=M.zL hN;have HN:=aG hN;clear zd hN;have ht1:s.t.length<=1000:=by have:=zq.t;omega
  by_cases N:a.length=6/\jG a=true
  ·obtain⟨N,f⟩:=N;obtain⟨Z,x1,x2,x3,x4,x5,rfl⟩:=ZW N;obtain⟨a6,c6,rfl,zr⟩:=HV.oQ f;rcases zr with h|⟨g,B,rfl,A⟩;·simp[aS]at h
   have za:Hid (aX s [n,Z,x1,x2,x3,x4,x5]=(⟨s.b,s.t++[⟨aV Z,aV x1,aV x2,aV x3,aV x4,aV x5⟩]⟩,SE)):=by
    rw[Hid,aX,hn];show uE s [Z,x1,x2,x3,x4,x5]=_;rw[uE,if_pos f]
   have j0:wc.cell? ⟨g,B,none⟩=some (.int .i64 (aV Z)):=by have:=A 0 (by simp[aS]) 0 _ rfl;simpa[aS]using this
   have j1:wc.cell? ⟨g,B+1,none⟩=some (.int .i64 (aV x1)):=by have:=A 1 (by simp[aS]) 0 _ rfl;simpa[aS]using this
   have j2:wc.cell? ⟨g,B+2,none⟩=some (.int .i64 (aV x2)):=by have:=A 2 (by simp[aS]) 0 _ rfl;simpa[aS]using this
   have j3:wc.cell? ⟨g,B+3,none⟩=some (.int .i64 (aV x3)):=by have:=A 3 (by simp[aS]) 0 _ rfl;simpa[aS]using this
   have j4:wc.cell? ⟨g,B+4,none⟩=some (.int .i64 (aV x4)):=by have:=A 4 (by simp[aS]) 0 _ rfl;simpa[aS]using this
   have j5:wc.cell? ⟨g,B+5,none⟩=some (.int .i64 (aV x5)):=by have:=A 5 (by simp[aS]) 0 _ rfl;simpa[aS]using this
   have e5:(aS [Z,x1,x2,x3,x4,x5]).length=6:=rfl;rw[e5,f];obtain⟨y,P⟩:=bP (⟨aV Z,aV x1,aV x2,aV x3,aV x4,aV x5⟩:Bx);have R:Hid (aX s [n,Z,x1,x2,x3,x4,x5]=(⟨s.b,s.t++[y]⟩,SE)):=by rw[P];exact za.oQ
   replace j0:wc.cell? ⟨g,B,none⟩=some (.int .i64 y.x):=by rw[P];exact j0
   replace j1:wc.cell? ⟨g,B+1,none⟩=some (.int .i64 y.y):=by rw[P];exact j1
   replace j2:wc.cell? ⟨g,B+2,none⟩=some (.int .i64 y.lo):=by rw[P];exact j2
   replace j3:wc.cell? ⟨g,B+3,none⟩=some (.int .i64 y.hi):=by rw[P];exact j3
   replace j4:wc.cell? ⟨g,B+4,none⟩=some (.int .i64 y.i):=by rw[P];exact j4
   replace j5:wc.cell? ⟨g,B+5,none⟩=some (.int .i64 y.o):=by rw[P];exact j5
   clear P za e5 A f N HV hX;go_upto_region 7 with fail;refine SZ 6 26 29 [some 53,some 54,some 55,some 56,some 57,some 58,some 59,some 60,some 61,some 62,some 63,some 64,some 65,some 66,some 67,some 68,some 69,some 70,some 71,some 72,some 73,some 74,some 75,some 76,some 77,some 78,some 79,some 80,some 81] TW XK (KQ D (.slice ta s.t.length tc) (.slice (some ⟨g,B,none⟩) 6 c6) g B y s.t wc.heap.size) (YH D) (Z7 wc D y s.t) KQ.zL KQ.loc KQ.free ?step ?free ?g0 ?gf ?store ?fin
   case step=>
    intro ii o F w' zf f m z;obtain⟨z0z,z1z,z2z,z3z⟩:=(M.zL m).c;have y0y:=(m.cell (aA j0)).trans j0;have y1y:=(m.cell (aA j1)).trans j1;have y2y:=(m.cell (aA j2)).trans j2;have y3y:=(m.cell (aA j3)).trans j3;have y4y:=(m.cell (aA j4)).trans j4;have y5y:=(m.cell (aA j5)).trans j5;match ii,zf with
    |2,_|3,_|4,_|7,_|8,_|10,_|11,_|13,_|14,_|16,_|17,_|19,_|20,_|22,_|23,_|24,_=>
     simp at f;subst f;simp[Region.binds,KQ]at z;simp only[aE,Act.put,z];gi_wp2;exact⟨_,by simp[aH,z],rfl,br _ _⟩
    |0,_|1,_|6,_|9,_|12,_|15,_|18,_|21,_=>
     simp at f;subst f;simp only[aE,Act.put];gi_wp2;exact⟨_,by simp[aH],rfl,br _ _⟩
    |5,_=>
     simp at f;subst f;simp[Region.binds,KQ]at z;simp only[aE,Act.put,z];gi_wp2_with fail;refine⟨trivial,rfl,?_⟩;refine(cw.2 (AL s.t ta tc w' (M.zL m).tb (by omega))).mono ?_;rintro e w5 ⟨⟨v5,rfl,E⟩,zn⟩;have HO:=aG (RY E m.size);clear E;gi_wp2;exact⟨_,by simp[aH,z],HO.oQ,zn⟩
    |25,_=>
     simp at f;subst f;simp[Region.binds,KQ]at z;simp only[aE,Act.put,z];gi_wp2;exact⟨_,by simp[aH,z],⟨_,rfl,wnq w' _⟩,aB (br _ _) _⟩
    |q+26,h=>exact absurd h (by omega)
   case free=>
    intro i o F w' t zf W f ht htM r z;have X:i=0:=by simpa[TW]using W
    subst X;clear r z;simp at f;subst f;simp only[aE,Act.put];gi_wp2;exact⟨.pointer (some ⟨D,0,none⟩),by simp[aH],rfl,trivial⟩
   case g0=>
    intro F w' m Y;exact⟨λ_=>⟨m,Y 5 (by decide) rfl,Y 25 (by decide) rfl⟩,λh=>absurd h (by decide),λh=>absurd h (by decide),λh=>absurd h (by decide)⟩
   case gf=>
    intro t F w' i v W r;have X:i=0:=by simpa[TW]using W
    subst X;exact⟨r.a,r.b,r.c,r.d⟩
   case store=>
    intro t o F w' h12 h15 f r z;have ht:t=26∨t=27∨t=28:=by omega
    rcases ht with rfl|rfl|rfl
    ·simp at f;subst f;obtain⟨m,E,p,zb,Y⟩:=r.a rfl;obtain⟨u5,e5⟩:∃u,F 5=u:=⟨_,rfl⟩;rw[e5]at E
     have H:∀j u,(aR y)[j]?=some u->w'.cell? ((⟨p,0,none⟩:Addr).add j)=some u:=λj u h=>by
      rw[Addr.add_lit,Nat.zero_add];match j,h with
      |0,h|1,h|2,h|3,h|4,h|5,h=>simp[aR]at h;subst h;exact aJ Y rfl
     clear r z;simp only[aE,Act.put,List.setIfInBounds_toArray,List.set_cons_succ,List.set_cons_zero];rw[e5,zb];refine wpListIn_append_own w' rfl (.tmp 58) (.tmp 78) 31 rfl wc.heap.size 56 ib _ 6 48 Tryz.underlying31 zp zl G zm rfl (by decide) u5 s.t.length (fA s.t) rfl E ⟨p,0,none⟩ 1 1 (aR y) rfl rfl H (mL y) (by unfold maxLen;omega) (by omega) m.size (λv1 w1 O ze _=>?_);have zi:Hid (aF wc w1):=m.grown ze m.size (λq hq=>fB E hq);have zj:=aG O;clear O ze H E Y m;gi_wp2;exact⟨v1,by simp[aH,e5,zb,Act.put],λh=>absurd h (by decide),λ_=>⟨zi.oQ,zj.oQ⟩,λh=>absurd h (by decide),λh=>absurd h (by decide)⟩
    ·simp at f;subst f;have d0:F 0=.pointer (some ⟨D,0,none⟩):=z (eD 0) (by simp) rfl (by decide) rfl;have Q:Hid (aF wc w'/\w'.ownsRow wc.heap.size 56 6 (F 26) (s.t.length+1) (fA s.t++aR y)):=r.b (by decide);clear r z;simp only[aE,Act.put,d0];gi_wp2;exact⟨_,by simp[aH,d0],λh=>absurd h (by decide),λ_=>Q.oQ,λ_=>rfl,λh=>absurd h (by decide)⟩
    ·simp at f;subst f;have U:=r.c (by decide);have Q:Hid (aF wc w'/\w'.ownsRow wc.heap.size 56 6 (F 26) (s.t.length+1) (fA s.t++aR y)):=r.b (by decide);clear r z;simp only[aE,Act.put,U];gi_wp2;exact⟨_,by simp[aH,U],λh=>absurd h (by decide),λ_=>Q.oQ,λ_=>U,λ_=>rfl⟩
   case fin=>
    intro F w' r Y;have zc:=r.d (by decide);obtain⟨m,E⟩:=r.b (by decide)
    obtain⟨ta',tc',V⟩:∃a c,F 26=.slice a (s.t.length+1) c:=by
     obtain⟨_,⟨_,e⟩|⟨g,C,_,e,_⟩⟩:=E;·omega
     ·exact⟨_,_,e⟩
    rw[V,←jE]at E;have K:=M.zL m;have zg:=QC (S:=λk=>k=D) (l:=s.t++[y]) (by simp) E (λk e=>by rw[e];exact gT M.o)
    have zk:Hid (nU D (w'.setCell ⟨D,3,none⟩ (.slice ta' (s.t.length+1) tc')) ⟨s.b,s.t++[y]⟩ b ta' tc'):=by
     have:=K.hand (t':=s.t++[y]) (ta':=ta') (tc':=tc') zg;rw[List.length_append]at this;exact this
    have zh:Hid (aT (λk=>k=D) w (w'.setCell ⟨D,3,none⟩ (.slice ta' (s.t.length+1) tc'))):=aT.set (S:=λk=>k=D) ((aT.below HN.oQ).trans (aT.below m)) (g:=D) rfl _ _;obtain⟨y0,y1,y2,y3⟩:=K.c;have yf:=K.fz;clear Y r m E K zg;simp only[lds,List.drop_zero,aE,Act.put];rw[zc,V];clear zc V;generalize F=F;gi_wp2_with fail;go_wp2;go_ret;exact⟨⟨_,_,_,by rw[R.oQ];exact zk.oQ⟩,by rw[R.oQ];rfl,zh.oQ⟩
  ·have R:Hid (aX s (n::a)=(s,cX)):=by rw[Hid,←AJ (s:=s) N,aX,hn];rfl
   by_cases L:a.length=6
   ·have f:jG a=false:=by
     cases e:jG a with
     |false=>rfl
     |true=>exact absurd ⟨L,e⟩ N
    rw[f,L];clear N L HV;go_wp2;go_ret;exact⟨⟨_,_,_,by rw[R.oQ];exact M⟩,by rw[R.oQ];rfl,aT.below HN.oQ⟩
   ·have hl':((a.length:Int)+1==7)=false:=by rw[beq_eq_false_iff_ne];omega
    clear N L;go_wp2;go_ret;exact⟨⟨_,_,_,by rw[R.oQ];exact M⟩,by rw[R.oQ];rfl,aT.below HN.oQ⟩
set_option maxHeartbeats 16000000
def KW (D:Nat)(b:Bk)(x:Wx)(vw vn:Value)(bl off g o:Nat)(s':Bk)(d i k c:Int)(Z:Nat)(j:Nat)(vs:Nat->Value)(w:World):Prop:=
 match j with
 |0=>vs 0=.pointer (some ⟨D,0,none⟩)
 |1=>vs 1=.pointer (some ⟨D,0,none⟩)
 |2=>vs 2=.pointer (some ⟨D,0,none⟩)
 |3=>vs 3=b.val
 |4=>vs 4=vw
 |5=>vs 5=.pointer (some ⟨bl,off+1,none⟩)
 |6=>vs 6=.string x.n
 |7=>vs 7=vn
 |8=>vs 8=.pointer (some ⟨g,o,none⟩)
 |9=>vs 9=.int .i64 x.q
 |10=>vs 10=vn
 |11=>vs 11=.pointer (some ⟨g,o+1,none⟩)
 |12=>vs 12=.int .i64 x.s
 |13=>vs 13=vn
 |14=>vs 14=.pointer (some ⟨g,o+2,none⟩)
 |15=>vs 15=.int .i64 x.f
 |16=>vs 16=vn
 |17=>vs 17=.pointer (some ⟨g,o+3,none⟩)
 |18=>vs 18=.int .i64 x.b
 |19=>vs 19=vn
 |20=>vs 20=.pointer (some ⟨g,o+4,none⟩)
 |21=>vs 21=.int .i64 x.l
 |22=>vs 22=.slice x.wa x.wl.length x.wc
 |23=>vs 23=.slice x.la x.ll.length x.lc
 |24=>vs 24=x.val
 |25=>∃b':Bk,vs 25=.tuple #[b'.val,fW d i k,.int .i64 c]/\KE s'.now s'.fl s'.hl b'/\eF Z w b'
 |26=>∃b':Bk,vs 26=.tuple #[b'.val,fW d i k,.int .i64 c]/\KE s'.now s'.fl s'.hl b'/\eF Z w b'
 |27=>∃b':Bk,vs 26=.tuple #[b'.val,fW d i k,.int .i64 c]/\vs 27=b'.val/\KE s'.now s'.fl s'.hl b'/\eF Z w b'
 |28=>vs 28=fW d i k
 |29=>vs 29=.int .i64 c
 |30=>∃p,vs 30=.pointer (some ⟨p,0,none⟩)/\Z<=p/\w.heap[p]?=some (.cells #[.int .i64 0,.slice none 0 0,.slice none 0 0] 30)
 |31=>∃p,vs 31=.pointer (some ⟨p,0,none⟩)/\Z<=p/\w.heap[p]?=some (.cells #[.int .i64 0,.int .i64 0,.int .i64 0] 80)
 |_=>True
theorem KW.zL {D:Nat}{b:Bk}{x:Wx}{t r:Value}{n l g o:Nat}{q:Bk}{d i k c:Int}{Z:Nat}(j:Nat)(s:Nat->Value)(w w':World)(h:KW D b x t r n l g o q d i k c Z j s w)(m:aF w w'):KW D b x t r n l g o q d i k c Z j s w':=by
 unfold KW at*;split at h
 all_goals first
  |exact h
  |(obtain⟨b',a,e,f⟩:=h;exact⟨b',a,e,f.zL m⟩)
  |(obtain⟨b',a,e,f,u⟩:=h;exact⟨b',a,e,f,u.zL m⟩)
  |(obtain⟨p,a,e,f⟩:=h;exact⟨p,a,e,bJ f m⟩)
def V8 (j:Nat):List Nat:=if j=27 then[27,26]else[j]
def SF (j:Nat):Bool:=j==28||j==29
theorem KW.loc {D:Nat}{b:Bk}{x:Wx}{s r:Value}{m f g o:Nat}{p:Bk}{d i k c:Int}{Z:Nat}(j:Nat)(l a:Nat->Value)(w:World)(n:∀q∈V8 j,l q=a q)(h:KW D b x s r m f g o p d i k c Z j l w):KW D b x s r m f g o p d i k c Z j a w:=by
 have e:l j=a j:=n j (by unfold V8;split<;>simp_all);unfold KW at*;split at h
 all_goals first
  |(rw[←e];exact h)
  |(rw[←e,←n 26 (by simp[V8])];exact h)
  |trivial
def YT (d i k c:Int)(j:Nat)(v:Value):Prop:=if j=28 then v=fW d i k else v=.int .i64 c
theorem KW.free {D:Nat}{b:Bk}{x:Wx}{p n:Value}{l a g o:Nat}{m:Bk}{d i k c:Int}{Z:Nat}(j:Nat)(f:Nat->Value)(w:World)(e:SF j=true)(h:KW D b x p n l a g o m d i k c Z j f w):YT d i k c j (f j):=by
 simp[SF]at e;rcases e with rfl|rfl<;>exact h
structure Z5 (W:World)(s':Bk)(d i k c:Int)(t:Nat)(vs:Nat->Value)(w':World)(b':Bk)(p q:Nat):Prop where
 tt:vs 26=.tuple #[b'.val,fW d i k,.int .i64 c]
 v:vs 27=b'.val
 vp:vs 30=.pointer (some ⟨p,0,none⟩)
 vq:vs 31=.pointer (some ⟨q,0,none⟩)
 bel:aF W w'
 cnt:KE s'.now s'.fl s'.hl b'
 sp:eF W.heap.size w' b'
 zp:W.heap.size<=p
 zq:W.heap.size<=q
 p0:t=32->w'.heap[p]?=some (.cells #[.int .i64 0,.slice none 0 0,.slice none 0 0] 30)
 p1:32<t->w'.heap[p]?=some b'.obj
 q0:t<=33->w'.heap[q]?=some (.cells #[.int .i64 0,.int .i64 0,.int .i64 0] 80)
 q1:33<t->w'.heap[q]?=some (iR d i k)
def ZG (W:World)(s':Bk)(d i k c:Int)(t:Nat)(vs:Nat->Value)(w':World):Prop:=∃b' p q,Z5 W s' d i k c t vs w' b' p q
def CV (q:Nat)(d i k:Int)(s0 s1 s2 s3 s4 s5 s6 s7:ByteArray)(j:Nat)(v:Value)(_w:World):Prop:=
 match j with
 |0=>v=.pointer (some ⟨q,0,none⟩)
 |1=>v=.int .i64 d
 |2=>v=.string s0
 |3=>v=.string s1
 |4=>v=.string s2
 |5=>v=.pointer (some ⟨q,1,none⟩)
 |6=>v=.int .i64 i
 |7=>v=.string s3
 |8=>v=.string s4
 |9=>v=.string s5
 |10=>v=.pointer (some ⟨q,2,none⟩)
 |11=>v=.int .i64 k
 |12=>v=.string s6
 |13=>v=.string s7
 |_=>True
theorem PD (D:Nat)(w:World)(s:St)(b:Bk)(ta:Option Addr)(tc k:Nat)(hS:nU D w s b ta tc)(jd:iP k s)(ws:List ByteArray)(bl M zs:Nat)(hX:Xs 1 dS w (some ⟨bl,M,none⟩) ws)(h9:8<ws.length)(xw:ws.length<=zs)(xy:ws.length<=1048570)(yj:∀x∈ws,x.size<=1048575):
 aY 15 #[.pointer (some ⟨D,0,none⟩),.slice (some ⟨bl,M,none⟩) ws.length zs] w λe w'=>OP D w (jW s ws.tail) e w':=by
 obtain⟨n,nm,q,O,f,N,l,lv,y,ys,I⟩:=ws9 h9;have xt:Xs 1 dS w (some ⟨bl,M+2,none⟩) [q,O,f,N,l]:=i7 hX 2 [n,nm] _ (lv::y::ys) (by rw[I];rfl) rfl;have K:Xs 1 dS w (some ⟨bl,M+8,none⟩) (y::ys):=i7 hX 8 [n,nm,q,O,f,N,l,lv] _ [] (by rw[I];simp) rfl;have R:=gO hX 1 nm (by rw[I];rfl);have c7:=gO hX 7 lv (by rw[I];rfl);have ja:lv.size<=1048575:=yj lv (by rw[I];simp);have jc:nm.size<=1048575:=yj nm (by rw[I];simp);have xi:∀x∈y::ys,x.size<=1048575:=λx hx=>yj x (by rw[I];exact List.mem_append_right [n,nm,q,O,f,N,l,lv] hx)
 have z:Hid (jW s ws.tail=if jG [q,O,f,N,l]&&jG (bH 44 lv)then(match fI (y::ys)with|some cs=>nK s (uQ nm q O f N l (bH 44 lv) cs)|none=>(s,cX))else(s,cX)):=by rw[I];rfl
 obtain⟨YY,yz⟩:=bP (y::ys);have hm:ws.length=YY.length+8:=by rw[I,yz];simp
 rw[←yz]at K xi z;obtain⟨m,xz⟩:=bP ws.length;rw[←xz]at hm xw xy h9 ⊢;have HM:=aG hm;have jb:m-8=YY.length:=by omega
 clear I yz hX yj xz hm n y ys;have yi:(bH 44 lv).length<=1048576:=by have:=kP 44 lv;omega
 go_enter Tryz.func15,Tryz.ntmps15
 go_wp2_with fail
 refine(bW [q,O,f,N,l] (some ⟨bl,M+2,none⟩) (zs-2) w xt (by simp)).mono ?_;rintro e w1 ⟨⟨v1,rfl,qe⟩,zb⟩;have yv:=aG qe;have xk:=aG zb
 replace R:=(zb.cell (aA R)).trans R
 replace c7:=(zb.cell (aA c7)).trans c7
 replace K:=K.zL zb
 replace hS:=hS.zL zb
 clear qe zb xt;obtain⟨p1,L⟩:∃p,p=jG [q,O,f,N,l]:=⟨_,rfl⟩;rw[←L]at yv z ⊢;clear L;go_wp2_with fail
 refine(rI lv 44 w1 (by omega)).mono ?_;rintro e w2 ⟨⟨v2,rfl,qa⟩,zc⟩;obtain⟨a2,c2,rfl,xh⟩:=q9 qa;have xl:=aG (aC xk.oQ zc)
 replace R:=(zc.cell (aA R)).trans R
 replace K:=K.zL zc
 replace hS:=hS.zL zc
 have yl:Hid (p1=true->∃J T,v1=.slice J (aS [q,O,f,N,l]).length T/\Xs 1 eW w2 J (aS [q,O,f,N,l])):=λh=>by obtain⟨J,T,e,hx⟩:=yv.oQ h;exact⟨J,T,e,hx.zL zc⟩
 clear qa zc xk yv c7;obtain⟨Q,hQ⟩:=bP (bH 44 lv);rw[←hQ]at xh z yi ⊢;clear hQ;go_wp2_with fail
 refine(bW Q a2 c2 w2 xh yi).mono ?_;rintro e w3 ⟨⟨v3,rfl,zh⟩,zd⟩;have yw:=aG zh;have zu:=aG (aC xl.oQ zd)
 replace R:=(zd.cell (aA R)).trans R
 replace K:=K.zL zd
 replace hS:=hS.zL zd
 have ym:Hid (p1=true->∃J T,v1=.slice J (aS [q,O,f,N,l]).length T/\Xs 1 eW w3 J (aS [q,O,f,N,l])):=λh=>by obtain⟨J,T,e,hx⟩:=yl.oQ h;exact⟨J,T,e,hx.zL zd⟩
 clear zh zd xl yl xh;obtain⟨p2,qb⟩:∃p,p=jG Q:=⟨_,rfl⟩;rw[←qb]at yw z ⊢;clear qb;go_wp2_with fail
 refine(VX YY (some ⟨bl,M+8,none⟩) (zs-8) w3 K (by omega) xi).mono ?_;rintro e E ⟨⟨v4,rfl,zi⟩,ze⟩;have zv:=aG zi;have yr:=aG (aC zu.oQ ze)
 replace R:=(ze.cell (aA R)).trans R
 have za:nU D E s b ta tc:=hS.zL ze;have zn:Hid (p1=true->∃J T,v1=.slice J (aS [q,O,f,N,l]).length T/\Xs 1 eW E J (aS [q,O,f,N,l])):=λh=>by obtain⟨J,T,e,hx⟩:=ym.oQ h;exact⟨J,T,e,hx.zL ze⟩
 have zo:Hid (p2=true->∃J T,v3=.slice J (aS Q).length T/\Xs 1 eW E J (aS Q)):=λh=>by obtain⟨J,T,e,hx⟩:=yw.oQ h;exact⟨J,T,e,hx.zL ze⟩
 clear zi ze zu ym yw K hS;obtain⟨ow,xf⟩:=bP (fI YY);rw[←xf]at zv z ⊢;have yt:=aG xf;clear xf
 by_cases V:p1=true/\p2=true/\∃cs,ow=some cs
 · obtain⟨rfl,rfl,cs,rfl⟩:=V
   obtain⟨a5,c5,rfl,jf⟩:=zn.oQ rfl;obtain⟨aL,cL,zh,qg⟩:=zo.oQ rfl;obtain⟨wa,wl,wc,zi,yk,qf,xg⟩:=(zv.oQ cs rfl).e
   rcases jf with h|⟨g,oo,rfl,zg⟩
   · simp[aS]at h
   have j0:E.cell? ⟨g,oo,none⟩=some (.int .i64 (aV q)):=by have:=zg 0 (by simp[aS]) 0 _ rfl;simpa[aS]using this
   have j1:E.cell? ⟨g,oo+1,none⟩=some (.int .i64 (aV O)):=by have:=zg 1 (by simp[aS]) 0 _ rfl;simpa[aS]using this
   have j2:E.cell? ⟨g,oo+2,none⟩=some (.int .i64 (aV f)):=by have:=zg 2 (by simp[aS]) 0 _ rfl;simpa[aS]using this
   have j3:E.cell? ⟨g,oo+3,none⟩=some (.int .i64 (aV N)):=by have:=zg 3 (by simp[aS]) 0 _ rfl;simpa[aS]using this
   have j4:E.cell? ⟨g,oo+4,none⟩=some (.int .i64 (aV l)):=by have:=zg 4 (by simp[aS]) 0 _ rfl;simpa[aS]using this
   have e5:(aS [q,O,f,N,l]).length=5:=rfl;rw[e5];clear e5 zg;obtain⟨je,qh⟩:=zJ YY [[]] cs 1 0 yt.oQ.symm (by simp) (by simp);obtain⟨x,hx⟩:=bP (⟨nm,aV q,aV O,aV f,aV N,aV l,wa,wl,wc,aL,aS Q,cL⟩:Wx);have xj:Hid (qK (uQ nm q O f N l Q cs) x):=by rw[Hid,hx];exact BP yk
   have ql:Hid (iL E x):=by
    rw[Hid,hx];refine⟨⟨qf,λy m=>(xg y m).1,qg⟩,⟨?_,λy m=>?_,?_,?_⟩,λy m=>(xg y m).2⟩
    · show wl.length<=1048576
      have:wl.length=cs.length:=by rw[←yk,List.length_map]
      omega
    · have:=qh y.l (by rw[←yk];exact List.mem_map_of_mem m)
      omega
    · show(aS Q).length<=1048576
      rw[eC];exact yi
    · show nm.size<=_
      omega
   replace R:E.cell? ⟨bl,M+1,none⟩=some (.string x.n):=by rw[hx];exact R
   replace j0:E.cell? ⟨g,oo,none⟩=some (.int .i64 x.q):=by rw[hx];exact j0
   replace j1:E.cell? ⟨g,oo+1,none⟩=some (.int .i64 x.s):=by rw[hx];exact j1
   replace j2:E.cell? ⟨g,oo+2,none⟩=some (.int .i64 x.f):=by rw[hx];exact j2
   replace j3:E.cell? ⟨g,oo+3,none⟩=some (.int .i64 x.b):=by rw[hx];exact j3
   replace j4:E.cell? ⟨g,oo+4,none⟩=some (.int .i64 x.l):=by rw[hx];exact j4
   replace zh:v3=.slice x.la x.ll.length x.lc:=by rw[hx];exact zh
   replace zi:v4=.slice x.wa x.wl.length x.wc:=by rw[hx];exact zi
   subst zh;subst zi;obtain⟨X,hX⟩:=bP (uQ nm q O f N l Q cs);have S:Hid (jW s ws.tail=nK s X):=by rw[Hid,z.oQ,hX];rfl
   rw[←hX]at xj;obtain⟨d,i,kk,xs,xq⟩:=OI s.b X;have qr:=aG xs;have qo:=aG xq;obtain⟨yo,yp⟩:=AB s.b X;obtain⟨cd,xb⟩:=bP (dL s.b X);rw[←xb]at yo yp;have zt:=aG xb.symm;have zu:=aG yr.oQ;have hmk:8<=m:=by omega
   clear xb xs xq hX hx je qh yk qf xg qg z zn zo zv yt jb HM jc ja yi xi yr
   go_upto_region 6 with fail
   refine SZ 6 32 34 [some 45,some 46,some 47,some 48,some 49,some 50,some 51,some 52,some 53,some 54,some 55,some 56,some 57,some 58,some 59,some 60,some 61,some 62,some 63,some 64,some 65,some 66,some 67,some 68,some 69,some 70,some 44,some 71,some 72,some 73,some 11,some 12,none,none] SF V8 (KW D b x (.slice (some ⟨bl,M,none⟩) m zs) (.slice (some ⟨g,oo,none⟩) 5 c5) bl M g oo (dM s.b s.b.now (eU s.b X)) d i kk cd E.heap.size) (YT d i kk cd) (ZG E (dM s.b s.b.now (eU s.b X)) d i kk cd) KW.zL KW.loc KW.free ?step ?free ?g0 ?gf ?store ?fin
   case step=>
    intro ii o W w' yh j F u;obtain⟨jk,jl,jm,z3z⟩:=(za.zL F).c;have z4z:=(F.cell (aA R)).trans R;have z5z:=(F.cell (aA j0)).trans j0;have z6z:=(F.cell (aA j1)).trans j1;have z7z:=(F.cell (aA j2)).trans j2;have z8z:=(F.cell (aA j3)).trans j3;have z9z:=(F.cell (aA j4)).trans j4
    match ii,yh with
    |1,_|2,_|3,_|5,_|6,_|8,_|9,_|11,_|12,_|14,_|15,_|17,_|18,_|20,_|21,_|24,_=>
     simp at j;subst j
     simp[Region.binds,KW]at u
     simp only[aE,Act.put,u];gi_wp2;exact⟨_,by simp[aH,u],rfl,br _ _⟩
    |0,_|4,_|7,_|10,_|13,_|16,_|19,_|22,_|23,_=>
     simp at j;subst j;simp only[aE,Act.put];gi_wp2;exact⟨_,by simp[aH],rfl,br _ _⟩
    |25,_=>
     simp at j;subst j
     simp[Region.binds,KW]at u
     simp only[aE,Act.put,u];gi_wp2_with fail
     refine⟨trivial,rfl,?_⟩;refine(cw.2 (PP (za.zL F).b jd.b (ql.oQ.zL F) xj.oQ)).mono ?_;rintro e w5 ⟨⟨b',rfl,G,H⟩,U⟩;rw[qr.oQ,zt.oQ];have zk:=aG (G);have zm:=aG (H.weak F.size);clear G H;gi_wp2;exact⟨_,by simp[aH,u],⟨b',rfl,zk.oQ,zm.oQ⟩,U⟩
    |26,_=>
     simp at j;subst j;obtain⟨b',xm,G,H⟩:=Zq u 25;have zk:=aG (G);have zm:=aG (H);clear G H u;simp only[aE,Act.put,xm];gi_wp2;exact⟨_,by simp[aH,xm],⟨b',rfl,zk.oQ,zm.oQ⟩,br _ _⟩
    |27,_=>
     simp at j;subst j;obtain⟨b',C,G,H⟩:=Zq u 26;have zk:=aG (G);have zm:=aG (H);clear G H u;simp only[aE,Act.put,C];gi_wp2;exact⟨_,by simp[aH,C],⟨b',by simp[aH,C],rfl,zk.oQ,zm.oQ⟩,br _ _⟩
    |28,_|29,_=>
     simp at j;subst j;obtain⟨b',C,G,H⟩:=Zq u 26;clear G H u;simp only[aE,Act.put,C];gi_wp2;exact⟨_,by simp[aH,C],rfl,br _ _⟩
    |30,_|31,_=>
     simp at j;subst j;simp only[aE,Act.put];gi_wp2;exact⟨_,by simp[aH],⟨_,rfl,F.size,wnq w' _⟩,aB (br _ _) _⟩
    |q+32,h=>exact absurd h (by omega)
   case free=>
    intro ii o W w' t yh xc j ht htM a u;obtain⟨b',p,q,a⟩:=a;have C:=a.tt
    have xd:ii=28∨ii=29:=by
     simp[SF]at xc;omega
    clear a u
    rcases xd with rfl|rfl
    · simp at j
      subst j;simp only[aE,Act.put,C];gi_wp2;exact⟨fW d i kk,by simp[aH,C],rfl,trivial⟩
    · simp at j
      subst j;simp only[aE,Act.put,C];gi_wp2;exact⟨.int .i64 cd,by simp[aH,C],rfl,trivial⟩
   case g0=>
    intro W w' F hp;obtain⟨b',qs,qt,h1,h2⟩:=hp 27 (by decide) rfl;obtain⟨p,ep,zp,P⟩:=hp 30 (by decide) rfl;obtain⟨q,eq,zq,A⟩:=hp 31 (by decide) rfl;exact⟨b',p,q,qs,qt,ep,eq,F,h1,h2,zp,zq,λ_=>P,λh=>absurd h (by decide),λ_=>A,λh=>absurd h (by decide)⟩
   case gf=>
    intro t W w' ii v xc a;obtain⟨b',p,q,a⟩:=a
    have xd:ii=28∨ii=29:=by
     simp[SF]at xc;omega
    rcases xd with rfl|rfl<;>exact⟨b',p,q,a.tt,a.v,a.vp,a.vq,a.bel,a.cnt,a.sp,a.zp,a.zq,a.p0,a.p1,a.q0,a.q1⟩
   case store=>
    intro t o W w' h12 h15 j a u;obtain⟨b',p,q,a⟩:=a;have ht:t=32∨t=33:=by omega
    rcases ht with rfl|rfl
    · simp at j
      subst j;have yx:=a.v;have Y:=a.vp;have P:=a.p0 rfl;obtain⟨jg,jh,ji⟩:=aM P;have jj:=iQ P;have k1:=aO P 0 (.int .i64 b'.now);have k2:=aO k1 1 (.slice b'.fa b'.fl.length b'.fc);have k3:=aO k2 2 (.slice b'.ha b'.hl.length b'.hc);have A:=a.q0 (by decide);have xe:q≠p:=λe=>by rw[e,P]at A;cases A
      have HQ:=aG (bE A (dC w' p b') xe);have HP:=aG k3;have yu:Hid (eF E.heap.size (f8 w' p b') b'):=a.sp.butT (dC w' p b') P (by decide) (by decide) (by decide);have yq:Hid (aF E (f8 w' p b')):=(dC w' p b').under a.bel (nlq _) (λk e=>by rw[e];exact a.zp);have B:Hid _:=a;clear a u P A k1 k2 k3;simp only[aE,Act.put,yx,Y];gi_wp2;exact⟨undef,by simp[aH,yx,Y],b',p,q,B.oQ.tt,yx,Y,B.oQ.vq,yq.oQ,B.oQ.cnt,yu.oQ,B.oQ.zp,B.oQ.zq,λh=>absurd h (by decide),λ_=>HP.oQ,λ_=>HQ.oQ,λh=>absurd h (by decide)⟩
    · simp at j
      subst j;have xn:W 28=fW d i kk:=u (eD 28) (by simp) rfl (by decide) rfl;have Z:=a.vq;have A:=a.q0 (by decide);obtain⟨jg,jh,ji⟩:=aM A;have jj:=iQ A;have k1:=aO A 0 (.int .i64 d);have k2:=aO k1 1 (.int .i64 i);have k3:=aO k2 2 (.int .i64 kk);have yg:aT (λr=>r=q) w' (((w'.setCell ⟨q,0,none⟩ (.int .i64 d)).setCell ⟨q,1,none⟩ (.int .i64 i)).setCell ⟨q,2,none⟩ (.int .i64 kk)):=(((aT.refl (λr=>r=q) w').set (g:=q) rfl _ _).set (g:=q) rfl _ _).set (g:=q) rfl _ _;have L:=a.p1 (by decide);have xe:p≠q:=λe=>by rw[←e,L]at A;simp[Bk.obj]at A
      have HP:=aG (bE L yg xe);have HQ:=aG k3;have yu:Hid (eF E.heap.size (((w'.setCell ⟨q,0,none⟩ (.int .i64 d)).setCell ⟨q,1,none⟩ (.int .i64 i)).setCell ⟨q,2,none⟩ (.int .i64 kk)) b'):=a.sp.butT yg A (by decide) (by decide) (by decide);have yq:Hid (aF E (((w'.setCell ⟨q,0,none⟩ (.int .i64 d)).setCell ⟨q,1,none⟩ (.int .i64 i)).setCell ⟨q,2,none⟩ (.int .i64 kk))):=yg.under a.bel (nlq _) (λk e=>by rw[e];exact a.zq);have B:Hid _:=a;clear a u L A k1 k2 k3 yg;simp only[aE,Act.put,xn,Z];gi_wp2;exact⟨undef,by simp[aH,xn,Z],b',p,q,B.oQ.tt,B.oQ.v,B.oQ.vp,Z,yq.oQ,B.oQ.cnt,yu.oQ,B.oQ.zp,B.oQ.zq,λh=>absurd h (by decide),λ_=>HP.oQ,λh=>absurd h (by decide),λ_=>HQ.oQ⟩
   case fin=>
    intro W w' a hp;obtain⟨b',p,q,a⟩:=a;have xo:W 29=.int .i64 cd:=hp 29 (by decide) rfl;have Y:=a.vp;have Z:=a.vq;have ye:=za.zL a.bel;have xu:dZ (λk=>k=D) w' (dM s.b s.b.now (eU s.b X)) b':=a.sp.at (λk e=>by rw[e];exact gT za.o) a.cnt;have zl:=aG (ye.put xu);have zj:=aG ((aT.below (aC zu.oQ a.bel)).trans (dC w' D b'));obtain⟨y0,y1,y2,y3⟩:=ye.c;have yf:=ye.fz;have L:=a.p1 (by decide);have qc:=a.q1 (by decide);obtain⟨u0,u1,u2⟩:=aM L;have xr:q≠D:=λe=>by have:=a.zq;have:=gT za.o;omega
    have qd:=bE qc (dC w' D b') xr;obtain⟨v0,v1,v2⟩:=aM qd;clear hp a ye xu L qc xr qd;simp only[lds,List.drop_zero,aE,Act.put];rw[xo,Y,Z];clear xo Y Z;generalize W=W
    by_cases zf:cd=0
    · have xv:(cd !=0)=false:=by simp[zf]
      obtain⟨xx,qu,qv,qw,qx,qy,qz⟩:=qo.oQ (by rw[zt.oQ];exact zf);obtain⟨s0,zw⟩:∃s,s=dD d:=⟨_,rfl⟩;obtain⟨s1,zx⟩:∃s,s=(⟨#[108,97,116,101,32]⟩:ByteArray)++s0:=⟨_,rfl⟩;obtain⟨s2,zy⟩:∃s,s=s1++(⟨#[32,119,97,121,32]⟩:ByteArray):=⟨_,rfl⟩;obtain⟨s3,zz⟩:∃s,s=dD i:=⟨_,rfl⟩;obtain⟨s4,ya⟩:∃s,s=s2++s3:=⟨_,rfl⟩;obtain⟨s5,yb⟩:∃s,s=s4++(⟨#[32,108,101,118,101,108,32]⟩:ByteArray):=⟨_,rfl⟩;obtain⟨s6,yc⟩:∃s,s=dD kk:=⟨_,rfl⟩;obtain⟨s7,yd⟩:∃s,s=s5++s6:=⟨_,rfl⟩;have jn:s0.size<=2000001:=by rw[zw];exact bG qv
      have jo:s1.size=5+s0.size:=by rw[zx,ByteArray.size_append];rfl
      have jp:s2.size=s1.size+5:=by rw[zy,ByteArray.size_append];rfl
      have jq:s3.size<=2000001:=by rw[zz];exact bG qx
      have jr:s4.size=s2.size+s3.size:=by rw[ya,ByteArray.size_append]
      have js:s5.size=s4.size+7:=by rw[yb,ByteArray.size_append];rfl
      have jt:s6.size<=2000001:=by rw[yc];exact bG qz
      have ju:s7.size=s5.size+s6.size:=by rw[yd,ByteArray.size_append]
      have gs1:¬9223372036854775807<5+s0.size:=by omega
      have gs2:¬9223372036854775807<s1.size+5:=by omega
      have gs4:¬9223372036854775807<s2.size+s3.size:=by omega
      have gs5:¬9223372036854775807<s4.size+7:=by omega
      have gs7:¬9223372036854775807<s5.size+s6.size:=by omega
      have zr:Hid (nK s X=(⟨dM s.b s.b.now (eU s.b X),s.t⟩,s7)):=by
       rw[Hid,nK,zt.oQ,if_pos zf,xx,←zw,←zx,←zy,←zz,←ya,←yb,←yc,←yd]
      have qi:=aG zw;have fs1:=zx.symm;have fs2:=zy.symm;have qj:=aG zz;have fs4:=ya.symm;have fs5:=yb.symm;have qk:=aG yc;have fs7:=yd.symm;clear xx zw jn zx jo zy jp zz jq ya jr yb js yc jt yd ju;subst zf;gi_wp2_with fail
      go_upto_region 10 with fail
      obtain⟨W7,yy⟩:=cK (((w'.setCell ⟨D,0,none⟩ (.int .i64 b'.now)).setCell ⟨D,1,none⟩ (.slice b'.fa b'.fl.length b'.fc)).setCell ⟨D,2,none⟩ (.slice b'.ha b'.hl.length b'.hc));have yn:f8 w' D b'=W7:=yy;rw[yn]at v0 v1 v2 zl zj;rw[yy];clear yy yn y0 y1 y2 y3 yf u0 u1 u2;refine pG 14 [some 82,some 83,some 84,some 85,some 86,some 87,some 88,some 89,some 90,some 91,some 92,some 93,some 94,some 95] (CV q d i kk s0 s1 s2 s3 s4 s5 s6 s7) (λ_ _ _ _ h _=>h) ?step ?fin
      case step=>
       intro ii o W w' yh j F u;have jk:=(F.cell (aA v0)).trans v0;have jl:=(F.cell (aA v1)).trans v1;have jm:=(F.cell (aA v2)).trans v2
       match ii,yh with
       |1,_|3,_|4,_|6,_|8,_|9,_|11,_|13,_=>
        simp at j;subst j
        simp[Region.binds,CV]at u
        simp only[aE,Act.put,u];gi_wp2;exact⟨_,by simp[aH,u],rfl,br _ _⟩
       |0,_|5,_|10,_=>
        simp at j;subst j;simp only[aE,Act.put];gi_wp2;exact⟨_,by simp[aH],rfl,br _ _⟩
       |2,_=>
        simp at j;subst j
        simp[Region.binds,CV]at u
        simp only[aE,Act.put,u];gi_wp2_with fail
        refine⟨trivial,rfl,?_⟩;refine(cw.2 (mR d w' qu (by omega))).mono ?_;rintro e w5 ⟨rfl,U⟩;rw[←qi.out];gi_wp2;exact⟨_,by simp[aH,u],rfl,U⟩
       |7,_=>
        simp at j;subst j
        simp[Region.binds,CV]at u
        simp only[aE,Act.put,u];gi_wp2_with fail
        refine⟨trivial,rfl,?_⟩;refine(cw.2 (mR i w' qw (by omega))).mono ?_;rintro e w5 ⟨rfl,U⟩;rw[←qj.out];gi_wp2;exact⟨_,by simp[aH,u],rfl,U⟩
       |12,_=>
        simp at j;subst j
        simp[Region.binds,CV]at u
        simp only[aE,Act.put,u];gi_wp2_with fail
        refine⟨trivial,rfl,?_⟩;refine(cw.2 (mR kk w' qy (by omega))).mono ?_;rintro e w5 ⟨rfl,U⟩;rw[←qk.out];gi_wp2;exact⟨_,by simp[aH,u],rfl,U⟩
       |q+14,h=>exact absurd h (by omega)
      case fin=>
       intro W w8 F hp;have xp:W 13=.string s7:=hp 13 (by decide);have qp:Hid _:=zl.oQ.zL F;have qm:Hid _:=zj.oQ.trans (aT.below F);clear hp F zl zj;simp only[lds,List.drop_zero,aE,Act.put];rw[xp];clear xp;generalize W=W;gi_wp2_with fail
       go_wp2
       go_ret;exact⟨⟨_,_,_,by rw[S.oQ,zr.oQ];exact qp.oQ⟩,by rw[S.oQ,zr.oQ];rfl,qm.oQ⟩
    · have xv:(cd !=0)=true:=by simp[zf]
      have zr:Hid (nK s X=(⟨dM s.b s.b.now (eU s.b X),s.t⟩,iK cd)):=by rw[Hid,nK,zt.oQ,if_neg zf]
      gi_wp2_with fail
      go_wp2_with fail
      refine(AT cd _ yo yp).mono ?_;rintro e w9 ⟨rfl,xa⟩;have qq:Hid _:=zl.oQ.zL xa;have qn:Hid _:=zj.oQ.trans (aT.below xa);clear xa zl zj;go_wp2
      go_ret;exact⟨⟨_,_,_,by rw[S.oQ,zr.oQ];exact qq.oQ⟩,by rw[S.oQ,zr.oQ];rfl,qn.oQ⟩
 · have S:Hid (jW s ws.tail=(s,cX)):=by
    rw[Hid,z.oQ]
    split
    · rename_i h
      rw[bat]at h
      split
      · exact absurd ⟨h.1,h.2,_,rfl⟩ V
      · rfl
    · rfl
   clear z zn zo zv yt
   cases p1<;>cases p2<;>cases ow
   all_goals first
    |exact absurd ⟨rfl,rfl,_,rfl⟩ V
    |(clear V;go_wp2;go_ret;exact⟨⟨_,_,_,by rw[S.oQ];exact za⟩,by rw[S.oQ];rfl,aT.below yr.oQ⟩)
end Go.Proofs.YtcdbcliaepcpfaaGreatDoor
