import Derived.Deep.DeepCutAuto
import Derived.Deep.CutBlock
import Derived.Test.YtcdbcliaepcpfaaGreatDoorYk1
import Derived.Test.YtcdbcliaepcpfaaGreatDoorZl
import Derived.Test.YtcdbcliaepcpfaaGreatDoorZg
namespace Go.Proofs.YtcdbcliaepcpfaaGreatDoor
set_option maxRecDepth 100000
set_option maxHeartbeats 8000000
open Go.RowKit Go.BigFrame
theorem TD (D:Nat) (w:World) (s:St) (b:Bk) (ta:Option Addr) (J G:Nat) (l:nU D w s b ta J) (E:iP G s) (_hkk:G<=1000) (n:ByteArray) (a:List ByteArray) (i d c:Nat) (o:Xs 1 dS w (some ⟨i,d,none⟩) (n::a)) (r:a.length+1<=c) (t:a.length+1<=1048570) (F:∀x∈n::a,x.size<=1048575) (I:n.toList=vE):
 aY 7 #[.pointer (some ⟨D,0,none⟩),.slice (some ⟨i,d,none⟩) (a.length+1) c] w λe w'=>OP D w (aX s (n::a)) e w':=by
 have u:=gO o 0 n rfl;rw[Nat.add_zero]at u;have p:Xs 1 dS w (some ⟨i,d+1,none⟩) a:=i7 o 1 [n] _ [] (by simp) rfl;go_enter Tryz.func7,Tryz.ntmps7;go_upto_region 1 with fail;go_cut [5,6] (λO P K=>P=.bool (jG a)/\Hid (jG a=true->∃H M,O=.slice H (aS a).length M/\Xs 1 eW K H (aS a))/\aF w K)
 case first=>
  by_cases B:c=1
  ·have ha:a=[]:=List.eq_nil_of_length_eq_zero (by omega);subst ha;subst B;go_wp2_with fail;refine(bW [] (some ⟨i,d,none⟩) 0 w (.inl rfl) (by simp)).mono ?_;rintro e Q ⟨⟨N,rfl,f⟩,h⟩;have g:=aG f;clear f;go_wp2;go_meet;exact⟨rfl,g,h⟩
  ·have hc2:1<c:=by omega
   go_wp2_with fail;refine(bW a (some ⟨i,d+1,none⟩) (c-1) w p (by omega)).mono ?_;rintro e Q ⟨⟨N,rfl,f⟩,h⟩;have g:=aG f;clear f;go_wp2;go_meet;exact⟨rfl,g,h⟩
 case rest=>
  obtain⟨rfl,HV,k⟩:=hcut;replace o:=o.zL k;replace u:=(k.cell (aA u)).trans u;replace l:=l.zL k;have y:=aG k;clear p k;by_cases v:8<=a.length
  ·have j:Hid (aX s (n::a)=jW s a):=by rw[Hid,aX,I];rfl
   have C:decide ((8:Int)<(a.length:Int)+1)=true:=by rw[dte];omega
   have L:=aG v;clear v;go_wp2_with fail;refine(PD D wc s b ta J G l E (n::a) i d c o (by have:=L.oQ;simp;omega) (by simpa using r) (by simpa using t) F).mono ?_;rintro e w2 ⟨⟨b2,ta2,tc2,m⟩,rfl,q⟩;have z:=aG ((aT.below y.oQ).trans q);have A:=aG m;clear q l y m;go_wp2;go_ret;exact⟨⟨_,_,_,by rw[j.oQ];exact A.oQ⟩,by rw[j.oQ];rfl,z.oQ⟩
  ·have j:Hid (aX s (n::a)=(s,cX)):=by rw[Hid,←vX (s:=s) v,aX,I];rfl
   have C:decide ((8:Int)<(a.length:Int)+1)=false:=by rw[decide_eq_false_iff_not];omega
   clear v;go_wp2;go_ret;exact⟨⟨_,_,_,by rw[j.oQ];exact l⟩,by rw[j.oQ];rfl,aT.below y.oQ⟩
theorem RP (D:Nat)(w:World)(s:St)(b:Bk)(ta:Option Addr)(m l:Nat)(o:nU D w s b ta m)(i:iP l s)(h:l<=1000)(q:List ByteArray)(r:q≠[])(k g f:Nat)(p:Xs 1 dS w (some ⟨k,g,none⟩) q)(c:q.length<=f)(d:q.length<=1048570)(j:∀x∈q,x.size<=1048575):
 aY 7 #[.pointer (some ⟨D,0,none⟩),.slice (some ⟨k,g,none⟩) q.length f] w λe w'=>OP D w (aX s q) e w':=by
 obtain⟨n,a,rfl⟩:=List.exists_cons_of_ne_nil r;by_cases t:n.toList=pA;·exact RK D w s b ta m l o i h n a k g f p c d j t
 by_cases u:n.toList=vE;·exact TD D w s b ta m l o i h n a k g f p c d j u
 by_cases v:n.toList=FI;·exact VR D w s b ta m l o i h n a k g f p c d j v
 by_cases y:n.toList=oI;·exact QT D w s b ta m l o i h n a k g f p c d j y
 by_cases z:n.toList=uN;·exact TC D w s b ta m l o i h n a k g f p c d j z
 by_cases A:n.toList=FK;·exact V5 D w s b ta m l o i h n a k g f p c d j A
 by_cases B:n.toList=tW;·exact TM D w s b ta m l o i h n a k g f p c d j B
 by_cases C:n.toList=tZ;·exact SO D w s b ta m l o i h n a k g f p c d j C
 by_cases E:n.toList=uR;·exact TR D w s b ta m l o i h n a k g f p c d j E
 exact SY D w s b ta m l o i h n a k g f p c d j t u v y z A B C E
theorem VU {w:World}(D:Nat)(h:w.heap[D]?=some (.cells #[.int .i64 0,.slice none 0 0,.slice none 0 0,.slice none 0 0] 33)):nU D w ZA ⟨0,none,[],0,none,[],0⟩ none 0:=
 ⟨h,⟨⟨rfl,rfl,QU⟩,λ_ _=>⟨.inl rfl,.inl rfl,λx hx=>by cases hx⟩,nlq _,nz _⟩,λ_ _=>.inl rfl⟩
theorem OA {l:List ByteArray}(m:Nat)(hm:l.length=m+1):l.getLastD ⟨#[]⟩=l[m]'(by omega):=by
 rw[List.getLastD_eq_getLast?,List.getLast?_eq_getElem?,show l.length-1=m from by omega,lge (by omega)];rfl
theorem yD (d:ByteArray)(w:World)(hs:d.size<=1048576):
 aY 4 #[.string d] w λe w'=>e=.returned (.string (B6 d))/\aF w w':=by
 go_enter Tryz.func4,Tryz.ntmps4
 go_wp2_with fail
 refine(rI d 10 w hs).mono ?_;rintro e t ⟨⟨v1,rfl,i⟩,ze⟩;have F:=yP 10 d;have B:=kP 10 d;have A:∀x∈bH 10 d,x.size<=d.size:=λx hx=>nS hx;have j:Hid (eZ d=if((bH 10 d).getLastD ⟨#[]⟩).toList=[]then(bH 10 d).dropLast else bH 10 d):=rfl;obtain⟨L,hL⟩:=bP (bH 10 d);rw[←hL]at i F B A j;clear hL;obtain⟨m,hm⟩:∃m,L.length=m+1:=⟨L.length-1,by have:=List.length_pos_iff.2 F;omega⟩;rw[OA m hm]at j;rw[hm]at i
 obtain⟨g,f,rfl⟩:∃g f,v1=.slice (some ⟨g,0,none⟩) (m+1) f:=by
  obtain⟨_,⟨_,e⟩|⟨g,f,_,e,_⟩⟩:=i
  ·omega
  ·exact⟨g,f,e⟩
 have hgw:w.heap.size<=g:=fB i rfl;have hg1:g<t.heap.size:=(i.lt g rfl).2;have H:m+1<=f:=(vD i).1
 have y:Xs 1 dS t (some ⟨g,0,none⟩) L:=by
  rw[←hm]at i;obtain⟨a,c,e,hx⟩:=q9 i
  cases e
  exact hx
 have cl:t.cell? ⟨g,m,none⟩=some (.string (L[m]'(by omega))):=by
  have:=gO y m (L[m]'(by omega)) (by rw[lge])
  simpa using this
 have zi:((m+1:Nat):Int)-1=(m:Int):=by omega
 have zw:m<=1048576:=by omega
 have zv:m<=f:=by omega
 have u:=aG ze;have X:=aG hm;obtain⟨z,hz⟩:=bP (L[m]'(by omega));rw[←hz]at cl j;clear i ze hz hm
 by_cases s:z.toList=[]
 case' pos=>
  obtain⟨T,v⟩:=bP (L.take m)
  have K:Hid (eZ d=T):=by
   rw[Hid,j.oQ,if_pos s,v,List.dropLast_eq_take]
   congr 1
   have:=X.oQ;omega
  have l:Hid (T.length=m):=by rw[Hid,v,List.length_take];have:=X.oQ;omega
  have N:Xs 1 dS t (some ⟨g,0,none⟩) T:=by rw[v];exact y.take m
  have I:∀x∈T,x.size<=d.size:=λx hx=>A x (by rw[v]at hx;exact List.mem_of_mem_take hx);have U:(z.toList==[])=true:=by rw[s];rfl
  clear v A y X F B j
  go_upto_region 4 with fail
  clear cl s U zi H;obtain⟨n,hn⟩:=bP m;subst hn
 case' neg=>
  obtain⟨T,v⟩:=bP L;have K:Hid (eZ d=T):=by rw[Hid,j.oQ,if_neg s,v]
  have l:Hid (T.length=m+1):=by rw[Hid,v];exact X.oQ
  have N:Xs 1 dS t (some ⟨g,0,none⟩) T:=by rw[v];exact y
  have I:∀x∈T,x.size<=d.size:=λx hx=>A x (by rw[v]at hx;exact hx);have U:(z.toList==[])=false:=by rw[beq_eq_false_iff_ne];exact s
  clear v A y X F B j
  go_upto_region 4 with fail
  clear cl s U zi zv;obtain⟨n,hn⟩:=bP (m+1);rw[←hn]at l H ⊢
  replace zw:n<=1048577:=by omega
  clear hn
 all_goals
  by_cases h1:20000<d.size
  ·have Y:Hid (B6 d=CY):=if_pos h1
   have zp:decide ((20000:Int)<(d.size:Int))=true:=by rw[dte];omega
   go_wp2
   go_ret;exact⟨by rw[Y.oQ];rfl,u.oQ⟩
  have zp:decide ((20000:Int)<(d.size:Int))=false:=by rw[decide_eq_false_iff_not];omega
  by_cases h2:300<n
  ·have Y:Hid (B6 d=CY):=by rw[Hid,B6,if_neg h1,K.oQ,l.oQ,if_pos h2]
   have zq:decide ((300:Int)<(n:Int))=true:=by rw[dte];omega
   go_wp2
   go_ret;exact⟨by rw[Y.oQ];rfl,u.oQ⟩
  have zq:decide ((300:Int)<(n:Int))=false:=by rw[decide_eq_false_iff_not];omega
  have Y:Hid (B6 d=(nP T).2):=by rw[Hid,B6,if_neg h1,K.oQ,l.oQ,if_neg h2]
  have zx:=F7 T;have E:aF t (t.alloc (.cells #[.int .i64 0,.slice none 0 0,.slice none 0 0,.slice none 0 0] 33)):=aB (br _ _) _;have M:Hid (nU t.heap.size (t.alloc (.cells #[.int .i64 0,.slice none 0 0,.slice none 0 0,.slice none 0 0] 33)) ZA ⟨0,none,[],0,none,[],0⟩ none 0):=VU _ (wnq t _);obtain⟨W0,zc⟩:=cK (t.alloc (.cells #[.int .i64 0,.slice none 0 0,.slice none 0 0,.slice none 0 0] 33));rw[zc]at E M;have zn:=aG (aC u.oQ E);have zr:=N.zL E
  go_upto_region 8 with fail
  obtain⟨D,hD⟩:=bP t.heap.size;rw[←hD]at M ⊢;have zt:g≠D:=by omega
  have zz:w.heap.size<=D:=by have:=u.oQ.size;omega
  clear E N zc hD u;go_wp2
  go_loopw [5,6] (λov iv wr=>∃(k:Nat) (b:Bk) (ta:Option Addr) (tc:Nat),k<=n/\ov=.string (nP (T.take k)).2/\iv=.int .i64 k/\Hid (nU D wr (nP (T.take k)).1 b ta tc)/\Hid (aT (λq=>q=D) W0 wr)) (λ_ iv _=>n-(intOf iv).toNat)
  case atStart=>exact⟨0,_,_,_,nz _,rfl,rfl,M,aT.refl _ _⟩
  case round=>
   obtain⟨k,b,ta,tc,hk,rfl,rfl,HS,V⟩:=hrel;obtain⟨R,zy⟩:=zx k (by rw[l.oQ];exact hk)
   by_cases zu:k<n
   ·have zh:(k:Int)<(n:Int):=by omega
    have Q:k<T.length:=by rw[l.oQ];exact zu
    have c0:wr.cell? ⟨g,k,none⟩=some (.string T[k]):=by
     have:=gO zr k T[k] (by rw[lge]);rw[Nat.zero_add]at this;exact V.oQ.cell (p:=⟨g,k,none⟩) zt this
    have C:=aG (wP T k Q);have yb:=I _ (lgm Q);obtain⟨x,hx⟩:=bP (T[k]);rw[←hx]at c0 C yb;clear hx Q;obtain⟨P,hP⟩:=bP (nP (T.take k));rw[←hP]at HS C R zy ⊢;clear hP;go_wp2_with fail
    refine(rI x 32 wr (by omega)).mono ?_;rintro e w2 ⟨⟨v2,rfl,G⟩,O⟩;have ya:=kP 32 x;have S:=yP 32 x;have zk:∀q∈bH 32 x,q.size<=1048575:=λq hq=>by have:=nS hq;omega
    have o:Hid (nP (T.take (k+1))=((aX P.1 (bH 32 x)).1,P.2++(aX P.1 (bH 32 x)).2++XS)):=C.oQ;have zj:=wB R (bH 32 x);obtain⟨ws,J⟩:=bP (bH 32 x);rw[←J]at G ya S zk o zj;clear J C
    obtain⟨g2,Z,rfl,zs⟩:∃g f,v2=.slice (some ⟨g,0,none⟩) ws.length f/\ws.length<=f:=by
     obtain⟨_,⟨_,e⟩|⟨g,f,_,e,_,_,h,_⟩⟩:=G
     ·exact absurd (List.eq_nil_of_length_eq_zero e) S
     ·exact⟨g,f,e,h⟩
    have zd:Xs 1 dS w2 (some ⟨g2,0,none⟩) ws:=by
     obtain⟨a,c,e,hx⟩:=q9 G
     cases e
     exact hx
    have za:=HS.oQ.zL O;have W:=aG (V.oQ.trans (aT.below O));clear G O HS V c0;go_wp2_with fail
    refine(RP D w2 P.1 b ta tc k za R (by omega) ws S g2 0 Z zd zs (by omega) zk).mono ?_;rintro e w3 ⟨⟨b3,yc,yd,zb⟩,rfl,zf⟩;have zo:=aG zb;have zl:=aG (W.oQ.trans zf);obtain⟨r,hr⟩:=bP ((aX P.1 ws).2);rw[←hr]at zj o ⊢;clear zb zf W za zd hr;have g1:¬9223372036854775807<P.2.size+r.size:=by omega
    have g2':¬9223372036854775807<P.2.size+r.size+1:=by omega
    go_wp2
    go_roundw
    case rel=>exact⟨k+1,b3,yc,yd,by omega,by rw[o.oQ],by go_num,by rw[o.oQ];exact zo.oQ,zl⟩
    case measure=>simp[intOf];omega
   ·have zh:¬(k:Int)<(n:Int):=by omega
    have zg:T.take k=T:=ltl (by rw[l.oQ];omega);have zm:Hid (aF w wr):=V.oQ.under zn.oQ (nlq _) (λq e=>by rw[e];exact zz);rw[zg];clear zg HS V;go_wp2
    go_ret;exact⟨by rw[Y.oQ];rfl,zm.oQ⟩
theorem D3 {n:ByteArray}{f:Nat}(h:yE n=some f):(n.toList=pA/\f=25)∨(n.toList=vE/\f=26)∨(n.toList=FI/\f=27)∨(n.toList=oI/\f=28)∨(n.toList=uN/\f=29)∨(n.toList=FK/\f=30)∨(n.toList=tW/\f=31)∨(n.toList=uR/\f=32)∨(n.toList=tZ/\f=33):=by
 unfold yE at h;by_cases a:n.toList=pA;·rw[if_pos a]at h;cases h;simp[a]
 rw[if_neg a]at h;by_cases b:n.toList=vE;·rw[if_pos b]at h;cases h;simp[b]
 rw[if_neg b]at h;by_cases c:n.toList=FI;·rw[if_pos c]at h;cases h;simp[c]
 rw[if_neg c]at h;by_cases d:n.toList=oI;·rw[if_pos d]at h;cases h;simp[d]
 rw[if_neg d]at h;by_cases e:n.toList=uN;·rw[if_pos e]at h;cases h;simp[e]
 rw[if_neg e]at h;by_cases g:n.toList=FK;·rw[if_pos g]at h;cases h;simp[g]
 rw[if_neg g]at h;by_cases i:n.toList=tW;·rw[if_pos i]at h;cases h;simp[i]
 rw[if_neg i]at h;by_cases j:n.toList=uR;·rw[if_pos j]at h;cases h;simp[j]
 rw[if_neg j]at h;by_cases k:n.toList=tZ;·rw[if_pos k]at h;cases h;simp[k]
 rw[if_neg k]at h;cases h
theorem kM {f:Nat}{b:Func}{c:Code}(g:Tryz.prog.funcs[f]?=some b)(a:(b.name== "runtime.NumGoroutine")=false)(e:b.body=some c)(args:Array Value)(w:World):(callFunc f args).run Tryz.prog w=.ok (.enter f args) w:=by
 have d:b.name≠ "runtime.NumGoroutine":=by simpa using a
 simp[callFunc,g,d,e]
theorem RN {n:ByteArray}{f:Nat}(h:yE n=some f)(args:Array Value)(w:World):(callFunc f args).run Tryz.prog w=.ok (.enter f args) w:=by
 rcases D3 h with⟨_,rfl⟩|⟨_,rfl⟩|⟨_,rfl⟩|⟨_,rfl⟩|⟨_,rfl⟩|⟨_,rfl⟩|⟨_,rfl⟩|⟨_,rfl⟩|⟨_,rfl⟩;·exact kM Tryz.func25 (by kernel_rfl) rfl args w
 ·exact kM Tryz.func26 (by kernel_rfl) rfl args w
 ·exact kM Tryz.func27 (by kernel_rfl) rfl args w
 ·exact kM Tryz.func28 (by kernel_rfl) rfl args w
 ·exact kM Tryz.func29 (by kernel_rfl) rfl args w
 ·exact kM Tryz.func30 (by kernel_rfl) rfl args w
 ·exact kM Tryz.func31 (by kernel_rfl) rfl args w
 ·exact kM Tryz.func32 (by kernel_rfl) rfl args w
 ·exact kM Tryz.func33 (by kernel_rfl) rfl args w
theorem RD {n:ByteArray}(h:yE n=none)(s:St)(a:List ByteArray):aX s (n::a)=(s,cX):=by
 unfold yE at h;by_cases b:n.toList=pA;·rw[if_pos b]at h;cases h
 rw[if_neg b]at h;by_cases c:n.toList=vE;·rw[if_pos c]at h;cases h
 rw[if_neg c]at h;by_cases d:n.toList=FI;·rw[if_pos d]at h;cases h
 rw[if_neg d]at h;by_cases e:n.toList=oI;·rw[if_pos e]at h;cases h
 rw[if_neg e]at h;by_cases f:n.toList=uN;·rw[if_pos f]at h;cases h
 rw[if_neg f]at h;by_cases g:n.toList=FK;·rw[if_pos g]at h;cases h
 rw[if_neg g]at h;by_cases i:n.toList=tW;·rw[if_pos i]at h;cases h
 rw[if_neg i]at h;by_cases j:n.toList=uR;·rw[if_pos j]at h;cases h
 rw[if_neg j]at h;by_cases k:n.toList=tZ;·rw[if_pos k]at h;cases h
 rw[if_neg k]at h;simp only[aX,b,c,d,e,f,g,i,j,k,if_false]
theorem NT (F:Nat->Prop)(S:Nat)(w:World)(s:St)(b:Bk)(v:Value)(j:kT F S w s b v)(i:Nat)(d:iP i s)(m:i<=1000)(n:ByteArray)(f:Nat)(q:yE n=some f)(a:List ByteArray)(g:Option Addr)(c:Nat)(k:Xs 1 dS w g a)(l:a.length<=c)(o:a.length<=1048570)(p:∀x∈a,x.size<=1048575):
 aY f #[.pointer (some ⟨S,0,none⟩),.slice g a.length c] w λe w'=>UW F S w s (aX s (n::a)) e w':=by
 rcases D3 q with⟨h,rfl⟩|⟨h,rfl⟩|⟨h,rfl⟩|⟨h,rfl⟩|⟨h,rfl⟩|⟨h,rfl⟩|⟨h,rfl⟩|⟨h,rfl⟩|⟨h,rfl⟩
 ·rw[show aX s (n::a)=fT s a by simp[aX,h]];exact LD F S w s b v j i d a g c k l p
 ·rw[show aX s (n::a)=jW s a by simp[aX,h]];exact PG F S w s b v j i d a g c k l o p
 ·rw[show aX s (n::a)=uE s a by simp[aX,h]];exact TQ F S w s b v j i d m a g c k
 ·rw[show aX s (n::a)=pF s a by simp[aX,h]];exact MK F S w s b v j i d a g c k m
 ·rw[show aX s (n::a)=nA true s a by simp[aX,h]];exact PJ F S w s b v j i d a g c k
 ·rw[show aX s (n::a)=nA false s a by simp[aX,h]];exact FM F S w s b v j i d a g c k
 ·rw[show aX s (n::a)=lT s a by simp[aX,h]];exact QQ F S w s b v j i d a g c k
 ·rw[show aX s (n::a)=mY s a by simp[aX,h]];exact RS F S w s b v j i d m a g c k
 ·rw[show aX s (n::a)=tX s a by simp[aX,h]];exact RX F S w s b v j i d a g c
theorem DQ (p:Addr)(x:ByteArray)(w:World)(a:w.cell? p=some (.string x))(c:w.frozen? p=false):
 CallsD Tryz.prog 35 #[.pointer (some p)] (.panicking [{ v:=.iface 67 (.agg #[]),recovered:=false}]) w λe d w'=>
  e=.returned (.tuple #[])/\d=.panicking [{ v:=.iface 67 (.agg #[]),recovered:=true}]/\w'=(w.alloc (.cells #[] 67)).setCell p (.string cX):=by
 have hta:∀w:World,(Instr.typeAssert (.iface 67 (.agg #[])) 20 67 true).run Tryz.prog w=.ok (.tuple #[.agg #[],.bool true]) w:=λ_=>by kernel_rfl
 have hcw:(w.alloc (.cells #[] 67)).cell? p=some (.string x):=((aB (br _ w) _).cell (aA a)).trans a;have hzw:(w.alloc (.cells #[] 67)).frozen? p=false:=((aB (br _ w) _).frozen (aA a)).trans c;refine callsD_of_wpS Tryz.func35 rfl λc₀ cs b=>?_;apply wpS_seq;apply wpS_region;simp[wpOpsS,go_sem,recoverD,b,Tryz.ntmps35,Exit.thenS];refine wpS_of_wp ?_;go_wp2;exact⟨rfl,_,rfl,_,results_none rfl _ _ _,rfl,rfl,rfl⟩
theorem MP (p:Addr)(w:World):
 CallsD Tryz.prog 35 #[.pointer (some p)] .returning w λe c w'=>e=.returned (.tuple #[])/\c=.returning/\w'=w:=by
 refine callsD_of_wpS Tryz.func35 rfl λa cs b=>?_;apply wpS_seq;apply wpS_region;simp[wpOpsS,go_sem,recoverD,b,Tryz.ntmps35,Exit.thenS];refine wpS_of_wp ?_;go_wp2;refine⟨rfl,.returning,?_,_,results_none rfl _ _ _,rfl,rfl,rfl⟩;cases a;simp_all
theorem ML (F:Nat->Prop)(S:Nat)(w:World)(s:St)(b:Bk)(v:Value)(hS:kT F S w s b v)(kk:Nat)(zf:iP kk s)(ze:kk<=1000)(i:ByteArray)(hline:i.size<=1048000)(r c:Nat)(hr:w.heap[r]?=some (.map (CD S) c)):
 aY 11 #[.string i,.map (some r)] w λe w'=>ZF F S w (aX s (bH 32 i)) e w':=by
 have hmf:∀(fn:Fn) (first zb:Array Value) (w:World),(Instr.makeFunc fn first zb).run Tryz.prog w=.ok (.func fn first zb) w:=λ_ _ _ _=>rfl;have o:aF w (w.alloc (.cells #[.string ⟨#[]⟩] 9)):=aB (br _ _) _;have z:Hid ((w.alloc (.cells #[.string ⟨#[]⟩] 9)).heap[w.heap.size]?=some (.cells #[.string ⟨#[]⟩] 9)):=wnq w _;have N:w.heap.size<(w.alloc (.cells #[.string ⟨#[]⟩] 9)).heap.size:=by simp
 obtain⟨R,hR⟩:=cK w.heap.size;have za:=aG hR;have X:Hid (∀q,F q->q<R):=λq hq=>by rw[←hR];exact(hS.fl q hq).2
 have Z:Hid (8<=R):=by rw[Hid,←hR];exact hS.e.s
 have I:=kP 32 i;go_enter_defers Tryz.func11,Tryz.ntmps11;go_wp2_with fail;rw[hR]at z N;obtain⟨W1,zc⟩:=cK (w.alloc (.cells #[.string ⟨#[]⟩] 9));rw[zc]at o z N ⊢;have zi:=aG o;have O:=hS.zL o;have zg:=bJ hr o;clear o hS hr zc hR;refine(GN i 32 W1 O.e (by omega)).mono ?_;rintro e V ⟨⟨rfl,hX⟩,m⟩;rw[show(((32:UInt8).toNat:Nat):Int)=32 from rfl]at hX ⊢;have T:∀x∈bH 32 i,x.size<=1048575:=λx hx=>by have:=nS hx;omega
 have U:=yP 32 i;obtain⟨L,hL⟩:=bP (bH 32 i);rw[←hL]at hX T U I ⊢;obtain⟨n,a,rfl⟩:=List.exists_cons_of_ne_nil U;have HL:=aG hL.symm;have zd:=i7 hX 1 [n] a [] (by simp) rfl;have c0:=gO hX 0 n rfl;rw[Nat.zero_add]at c0 zd;have l:=V1 S r c n V (bJ zg m);have Y:=aG (bJ z.oQ m);have J:=aG (aC zi.oQ m);have zj:=aG (Nat.lt_of_lt_of_le N m.size);have B:=O.zL m;rw[llc]at I ⊢
 have C:Hid (aX s (n::a)=(s,cX)->∀j,aF V j->ZF F S w (aX s (n::a)) (.returned (.string cX)) ((j.alloc (.cells #[] 67)).setCell ⟨R,0,none⟩ (.string cX))):=λhz j d=>by
  have hB:aF w ((j.alloc (.cells #[] 67)).setCell ⟨R,0,none⟩ (.string cX)):=(aB (aC J.oQ d) _).setCell (p:=⟨R,0,none⟩) (by show w.heap.size<=R;rw[za.oQ];exact nlq _) _;rw[hz]
  have zk:kT F S ((j.alloc (.cells #[] 67)).setCell ⟨R,0,none⟩ (.string cX)) s b v:=by
   refine(B.zL (aB d (.cells #[] 67))).out ?_ ?_;·exact(aT.refl _ _).set (g:=R) (λH=>by have:=X.oQ R H;omega) _ _
   ·exact(B.e.zL (aB d (.cells #[] 67))).but ((aT.refl (λk=>k=R) _).set (g:=R) rfl 0 (.string cX)) (λk e=>by rw[e];exact Z.oQ)
  exact⟨⟨F,b,v,zk,λk hk=>.inl hk⟩,rfl,aT.below hB⟩
 have D:Hid (∀j,aF V j->j.cell? ⟨R,0,none⟩=some (.string ⟨#[]⟩)/\j.frozen? ⟨R,0,none⟩=false/\((j.alloc (.cells #[] 67)).setCell ⟨R,0,none⟩ (.string cX)).cell? ⟨R,0,none⟩=some (.string cX)):=λj d=>by
  have h2:=bJ Y.oQ d;have h3:=bJ h2 (aB (br _ j) (.cells #[] 67));exact⟨aJ h2 rfl,by simp[World.frozen?,h2],aJ (aO h3 0 (.string cX)) rfl⟩
 clear hL hX U m O zg z;cases H:yE n with
 |none=>
  have HZ:=aG (RD H s a);rw[H]at l;simp only[Option.map_none,Option.getD_none,Option.isSome_none]at l;obtain⟨q1,q2,q3⟩:=D.oQ V (br _ _);have y:=C.oQ HZ.oQ V (br _ _);have y:Hid _:=y;go_wp2_with (go_at_call 36;refine(jD _).mono ?_;rintro e w' ⟨rfl,rfl⟩);refine leaves_cons (f:=35) (args:=#[.pointer (some ⟨R,0,none⟩)]) (by simp) (by simp[go_sem]) ?_;refine(DQ ⟨R,0,none⟩ ⟨#[]⟩ _ q1 q2).mono ?_;rintro e u' zh ⟨rfl,rfl,rfl⟩;simp[Leaves,settle,results,Tryz.results11,go_sem,q3];rw[HL.oQ];exact y.oQ
 |some f=>
  have hent:=RN H;rw[H]at l;simp only[Option.map_some,Option.getD_some,Option.isSome_some]at l;have W:Hid (∀x∈a,x.size<=1048575):=λx hx=>T x (List.mem_cons_of_mem _ hx);have E:Hid (a.length<=1048570):=by rw[Hid];omega
  have HF:=aG H;clear H T;rcases Nat.eq_zero_or_pos a.length with h1|h1
  case' inl=>
   have h0:=aG (List.eq_nil_of_length_eq_zero h1);go_wp2_with (go_at_call 36;refine(gD _).mono ?_;rintro e w' ⟨⟨u,rfl⟩,t⟩;rw[t];clear t);go_wp2_with fail;have hC:=NT F S V s b v B kk zf ze n f HF.oQ a (some ⟨W1.heap.size,0,none⟩) 0 (.inl h0.out) (by omega) E.oQ W.oQ;rw[h1]at hC;refine hC.mono ?_
  case' inr=>
   have h2:¬a.length=0:=by omega
   have h3:¬a=[]:=λe=>h2 (by rw[e];rfl);go_wp2_with (go_at_call 36;refine(gD _).mono ?_;rintro e w' ⟨⟨u,rfl⟩,t⟩;rw[t];clear t);go_wp2_with fail;refine(NT F S V s b v B kk zf ze n f HF.oQ a _ a.length zd (nlq _) E.oQ W.oQ).mono ?_
  all_goals
   rintro e j (⟨hz,rfl,d⟩|⟨⟨F',b',v',P,K⟩,rfl,d⟩)
   ·obtain⟨q1,q2,q3⟩:=D.oQ j d;have y:=C.oQ hz j d;have y:Hid _:=y;clear hz d;go_wp2;refine leaves_cons (f:=35) (args:=#[.pointer (some ⟨R,0,none⟩)]) (by simp) (by simp[go_sem]) ?_;refine(DQ ⟨R,0,none⟩ ⟨#[]⟩ _ q1 q2).mono ?_;rintro e u' zh ⟨rfl,rfl,rfl⟩;simp[Leaves,settle,results,Tryz.results11,go_sem,q3];rw[HL.oQ];exact y.oQ
   ·have M:¬F R:=λh=>by have:=X.oQ R h;omega
    have G:¬F' R:=λh=>(K R h).elim M (λh=>by have:=zj.oQ;omega);have A:=bE Y.oQ d M;have q1:j.cell? ⟨R,0,none⟩=some (.string ⟨#[]⟩):=aJ A rfl;have q2:=iQ A;have q3:∀x,(j.setCell ⟨R,0,none⟩ (.string x)).cell? ⟨R,0,none⟩=some (.string x):=λx=>aJ (aO A 0 (.string x)) rfl
    have y:Hid (∀x,x=(aX s (n::a)).2->ZF F S w (aX s (n::a)) (.returned (.string x)) (j.setCell ⟨R,0,none⟩ (.string x))):=λx hx=>by
     have Q:aT (λk=>k=R) j (j.setCell ⟨R,0,none⟩ (.string x)):=(aT.refl (λk=>k=R) j).set (g:=R) rfl _ _;exact⟨⟨F',b',v',P.out (Q.wide (λk e=>by rw[e];exact G)) (P.e.but Q (λk e=>by rw[e];exact Z.oQ)),λk hk=>(K k hk).elim .inl (λh=>.inr (Nat.le_trans J.oQ.size h))⟩,by rw[hx],((aT.below J.oQ).trans d).past Q (λk e=>.inr (by rw[za.oQ,e];exact nlq _))⟩
    obtain⟨x,hx⟩:=bP ((aX s (n::a)).2);rw[←hx];have HX:Hid _:=y.oQ x hx;clear d P K M G A hx y;go_wp2;refine leaves_cons (f:=35) (args:=#[.pointer (some ⟨R,0,none⟩)]) (by simp) (by simp[go_sem]) ?_;refine(MP ⟨R,0,none⟩ _).mono ?_;rintro e u' zh ⟨rfl,rfl,rfl⟩;simp[Leaves,settle,results,Tryz.results11,go_sem,q3];rw[HL.oQ];exact HX.oQ
theorem J3 (a:ByteArray)(w:World)(F:yL w)(G:a.size<=1048576):
 aY 8 #[.string a] w λe w'=>((20000<a.size/\e=.returned (.tuple #[.slice none 0 0,.bool false]))∨(¬20000<a.size/\∃s,e=.returned (.tuple #[.slice (some ⟨w.heap.size,0,none⟩) (eZ a).length s,.bool (decide ((eZ a).length<=300))])/\Xs 1 dS w' (some ⟨w.heap.size,0,none⟩) (eZ a)))/\aF w w':=by
 by_cases t:20000<a.size
 ·have u:decide ((20000:Int)<(a.size:Int))=true:=by rw[dte];omega
  go_enter Tryz.func8,Tryz.ntmps8;go_wp2;exact bpr (v:=.tuple #[.slice none 0 0,.bool false]) (by simp[results,Tryz.results8,go_sem]) rfl ⟨.inl ⟨t,rfl⟩,br _ _⟩
 have u:decide ((20000:Int)<(a.size:Int))=false:=by rw[decide_eq_false_iff_not];omega
 go_enter Tryz.func8,Tryz.ntmps8;go_wp2_with fail;refine(GN a 10 w F G).mono ?_;rintro e A ⟨⟨rfl,d⟩,p⟩;rw[show(((10:UInt8).toNat:Nat):Int)=10 from rfl]at d ⊢;have g:=yP 10 a;have f:=kP 10 a;have b:Hid (eZ a=if((bH 10 a).getLastD ⟨#[]⟩).toList=[]then(bH 10 a).dropLast else bH 10 a):=rfl;obtain⟨L,C⟩:=bP (bH 10 a);rw[←C]at d g f b ⊢;clear C;obtain⟨m,q⟩:∃m,L.length=m+1:=⟨L.length-1,by have:=List.length_pos_iff.2 g;omega⟩;rw[OA m q]at b;rw[q]
 have E:A.cell? ⟨w.heap.size,m,none⟩=some (.string (L[m]'(by omega))):=by
  have:=gO d m (L[m]'(by omega)) (by rw[lge]);simpa using this
 have hm1:((m+1:Nat):Int)-1=(m:Int):=by omega
 have hmm:m<=1048576:=by omega
 have o:=aG p;obtain⟨z,D⟩:=bP (L[m]'(by omega));rw[←D]at E b;have n:=aG q;clear p D q;by_cases i:z.toList=[]
 ·have c:Hid (eZ a=L.take m):=by
   rw[Hid,b.oQ,if_pos i,List.dropLast_eq_take];congr 1;have:=n.oQ;omega
  have j:Hid ((eZ a).length=m):=by rw[Hid,c.oQ,List.length_take];have:=n.oQ;omega
  have k:Hid (Xs 1 dS A (some ⟨w.heap.size,0,none⟩) (eZ a)):=by rw[Hid,c.oQ];exact d.take m
  have y:(z.toList==[])=true:=by rw[i];rfl
  clear g f b d n c;obtain⟨B,l⟩:=bP (decide (m<=300));have x:decide ((m:Int)<=300)=B:=by rw[l];congr 1;exact propext ⟨λh=>by omega,λh=>by omega⟩
  have r:=aG l;clear l;go_wp2;exact bpr (v:=.tuple #[.slice (some ⟨w.heap.size,0,none⟩) m (m+1),.bool B]) (by simp[results,Tryz.results8,go_sem]) rfl ⟨.inr ⟨t,m+1,by rw[j.oQ,r.oQ],k.oQ⟩,o.oQ⟩
 ·have c:Hid (eZ a=L):=by rw[Hid,b.oQ,if_neg i]
  have j:Hid ((eZ a).length=m+1):=by rw[Hid,c.oQ];exact n.oQ
  have k:Hid (Xs 1 dS A (some ⟨w.heap.size,0,none⟩) (eZ a)):=by rw[Hid,c.oQ];exact d
  have y:(z.toList==[])=false:=by rw[beq_eq_false_iff_ne];exact i
  clear g f b d n c;obtain⟨B,l⟩:=bP (decide (m+1<=300));have x:decide ((m:Int)+1<=300)=B:=by rw[l];congr 1;exact propext ⟨λh=>by omega,λh=>by omega⟩
  have r:=aG l;clear l;go_wp2;exact bpr (v:=.tuple #[.slice (some ⟨w.heap.size,0,none⟩) (m+1) (m+1),.bool B]) (by simp[results,Tryz.results8,go_sem]) rfl ⟨.inr ⟨t,m+1,by rw[j.oQ,r.oQ],k.oQ⟩,o.oQ⟩
theorem Xs.butS {S:Nat->Prop}{w w':World}{c a:Nat}{l:List ByteArray}(h:Xs 1 dS w (some ⟨c,a,none⟩) l)(d:aT S w w')(m:¬S c):Xs 1 dS w' (some ⟨c,a,none⟩) l:=by
 rcases h with h|⟨b,o,e,f⟩;·exact .inl h
 ·cases e;exact .inr ⟨c,a,rfl,λk i j u g=>d.cell m (f k i j u g)⟩
theorem IS.but {S:Nat->Prop}{T:Nat}{v:Value}{o:ByteArray}{w w':World}(h:IS T v o w)(a:aT S w w')(d:¬S T)(g:∀q,v.ownBlock=some q->¬S q):IS T v o w':=by
 obtain⟨p,f,e⟩:=h.c;refine⟨⟨p,f,bE e a d⟩,vO h.r (λk b=>a.block k (h.r.lt k b).2 (g k b)),h.n⟩
structure OR (W0:World)(S T k:Nat)(L:List ByteArray)(wr:World)(F:Nat->Prop)(b:Bk)(v bv:Value):Prop where
 i:kT F S wr (nP (L.take k)).1 b v
 f:∀q,F q->q=S∨W0.heap.size<=q
 d:IS T bv (nP (L.take k)).2 wr
 b:∀q,bv.ownBlock=some q->W0.heap.size<=q/\¬F q
 w:aT (λq=>q=S∨q=T) W0 wr
theorem OR.step {G:World}{S T k:Nat}{L:List ByteArray}{wr D N E:World}{F m:Nat->Prop}{b b':Bk}{v U x c j:Value}(K:S≠T)(hT:T<G.heap.size)(O:8<=T)(h:OR G S T k L wr F b v x)
 {R:St}(y:kT m S D R b' U)(hF:∀q,m q->F q∨wr.heap.size<=q)(A:aT F wr D)
 (u:∀q,c.ownBlock=some q->x.ownBlock=some q∨D.heap.size<=q)(l:aT (λq=>q=T∨x.ownBlock=some q) D N)
 {Q:ByteArray}(I:IS T j Q E)(C:∀q,j.ownBlock=some q->c.ownBlock=some q∨N.heap.size<=q)(p:aT (λq=>q=T∨c.ownBlock=some q) N E)
 (P:nP (L.take (k+1))=(R,Q)):OR G S T (k+1) L E m b' U j:=by
 have M:¬F T:=λg=>(h.f T g).elim (λe=>K e.symm) (λe=>by omega);have hw:=h.w.size;have n:¬m T:=λg=>(hF T g).elim M (λe=>by omega);have o:∀q,x.ownBlock=some q->¬m q:=λq a g=>(hF q g).elim (h.b q a).2 (λe=>by have:=(h.d.r.lt q a).2;omega);have hs1:=A.size;have hs2:=l.size;have i:∀q,c.ownBlock=some q->¬m q:=λq a g=>(u q a).elim (λe=>o q e g) (λe=>by have:=(y.fl q g).2;omega);have t:∀q,j.ownBlock=some q->¬m q:=λq a g=>(C q a).elim (λe=>i q e g) (λe=>by have:=(y.fl q g).2;omega);have H:aT (λq=>¬m q) D E:=(l.wide (λq e=>e.elim (λe=>by rw[e];exact n) (o q))).trans (p.wide (λq e=>e.elim (λe=>by rw[e];exact n) (i q)));have B:∀q,x.ownBlock=some q->8<=q:=λq a=>by have:=(h.b q a).1;omega
 have J:yL E:=by
  have V:=y.e.but l (λq e=>e.elim (λe=>by rw[e];exact O) (B q));exact V.but p (λq e=>e.elim (λe=>by rw[e];exact O) (λe=>(u q e).elim (B q) (λg=>by have:=y.e.s;omega)))
 have z:∀q,c.ownBlock=some q->G.heap.size<=q:=λq a=>(u q a).elim (λe=>(h.b q e).1) (λe=>by omega);refine⟨by rw[P];exact y.out H J,λq g=>(hF q g).elim (h.f q) (λe=>.inr (by omega)),by rw[P];exact I,λq a=>⟨(C q a).elim (z q) (λe=>by omega),t q a⟩,?_⟩;exact((h.w.past A (λq g=>(h.f q g).elim (λe=>.inl (.inl e)) .inr)).past l (λq e=>e.elim (λe=>.inl (.inr e)) (λe=>.inr (h.b q e).1))).past p (λq e=>e.elim (λe=>.inl (.inr e)) (λe=>.inr (z q e)))
theorem TI {a x:ByteArray}(h:x∈eZ a):x.size<=a.size:=by
 unfold eZ at h;split at h;·exact nS (List.dropLast_sublist _ |>.subset h)
 ·exact nS h
theorem x8 (a:ByteArray)(w:World)(hE:yL w)(hs:a.size<=1048576):
 aY 5 #[.string a] w λe w'=>e=.returned (.string (B6 a))/\aF w w':=by
 have m:Hid (B6 a=if 20000<a.size then CY else if 300<(eZ a).length then CY else(nP (eZ a)).2):=rfl
 go_enter Tryz.func5,Tryz.ntmps5
 go_wp2_with fail
 refine(J3 a w hE hs).mono ?_
 rintro e A ⟨⟨h1,rfl⟩|⟨h1,cap,rfl,hX⟩,j⟩
 ·go_wp2
  go_ret;exact⟨by rw[m.oQ,if_pos h1];rfl,j⟩
 by_cases h3:(eZ a).length<=300
 ·have ze:∀x∈eZ a,x.size<=1048000:=λx hx=>by have:=TI hx;omega
  have HR:Hid (B6 a=(nP (eZ a)).2):=by rw[Hid,m.oQ,if_neg h1,if_neg (by omega)]
  have t:decide ((eZ a).length<=300)=true:=decide_eq_true h3;rw[t];obtain⟨L,hL⟩:=bP (eZ a);rw[←hL]at hX h3 ze HR ⊢;clear hL t m h1;have K:=hE.zL j;have hA:=wnq A (.cells #[.int .i64 0,.slice none 0 0,.slice none 0 0,.slice none 0 0] 38);have p:aF A (A.alloc (.cells #[.int .i64 0,.slice none 0 0,.slice none 0 0,.slice none 0 0] 38)):=aB (br _ _) _;have zy:(A.alloc (.cells #[.int .i64 0,.slice none 0 0,.slice none 0 0,.slice none 0 0] 38)).heap.size=A.heap.size+1:=by simp
  obtain⟨D,zg⟩:=cK (A.alloc (.cells #[.int .i64 0,.slice none 0 0,.slice none 0 0,.slice none 0 0] 38));obtain⟨S,hS⟩:=cK A.heap.size;rw[zg]at hA p zy;go_wp2_with fail
  refine(FJ S D).mono ?_;rintro e w2 ⟨rfl,rfl⟩;have hB:=wnq D (.map (CD S) 9);have l:aF D (D.alloc (.map (CD S) 9)):=aB (br _ _) _;have zz:(D.alloc (.map (CD S) 9)).heap.size=D.heap.size+1:=by simp
  obtain⟨J,zh⟩:=cK (D.alloc (.map (CD S) 9));obtain⟨r,hr⟩:=cK D.heap.size;rw[zh]at hB l zz ⊢;rw[hr]at hB ⊢;have hC:=wnq J (.cells #[.pointer none,.slice none 0 0] 44);have c:aF J (J.alloc (.cells #[.pointer none,.slice none 0 0] 44)):=aB (br _ _) _;have ya:(J.alloc (.cells #[.pointer none,.slice none 0 0] 44)).heap.size=J.heap.size+1:=by simp
  obtain⟨R,zi⟩:=cK (J.alloc (.cells #[.pointer none,.slice none 0 0] 44));obtain⟨T,hT⟩:=cK J.heap.size;rw[zi]at hC c ya;rw[hT]at hC
  have zn:w.heap.size<A.heap.size∨L=[]:=by
   rcases hX with h|⟨bl,off,e,hc⟩
   ·exact .inr h
   ·cases e
    by_cases h0:0<L.length
    ·exact .inl (aA (hc 0 h0 0 _ rfl))
    ·exact .inr (List.eq_nil_of_length_eq_zero (by omega))
  have yr:=K.s
  have H:Hid (w.heap.size<=A.heap.size/\A.heap.size=S/\r=S+1/\T=S+2/\R.heap.size=S+3/\8<=S/\(w.heap.size<S∨L=[])):=by
   have:=j.size;refine⟨this,hS,by omega,by omega,by omega,by omega,?_⟩;rw[←hS];exact zn
  have zb:=aG (aC (aC (aC j p) l) c);have yn:=aG (((hX.zL p).zL l).zL c);have yi:=aG (bJ hB c)
  have yj:Hid (OR R S T 0 L R (λq=>q=S) ⟨0,none,[],0,none,[],0⟩ (.slice none 0 0) (.slice none 0 0)):=by
   obtain⟨U,V,W,X,Y,Z,E⟩:=H.oQ;have ys:R.heap[S]?=some (.cells #[.int .i64 0,.slice none 0 0,.slice none 0 0,.slice none 0 0] 38):=by rw[←hS];exact bJ (bJ hA l) c
   refine⟨⟨ys,⟨rfl,.inl ⟨rfl,rfl⟩⟩,⟨⟨rfl,rfl,aU.refl _⟩,λw' _=>⟨.inl rfl,.inl rfl,λx hx=>by cases hx⟩,nlq _,by show 0<=_;omega⟩,rfl,λq y=>by simp[Value.ownBlock]at y,λq y=>?_,((K.zL p).zL l).zL c⟩,λq y=>.inl y,⟨⟨none,.inl rfl,hC⟩,⟨rfl,.inl ⟨rfl,rfl⟩⟩,by simp[Value.ownBlock]⟩,λq y=>by simp[Value.ownBlock]at y,aT.refl _ _⟩;have e:q=S:=y;rw[e];omega
  clear hA p zy hB l zz hC c ya zn hX K yr j zg zh hE;go_wp2
  clear zi hT hr hS
  go_loopw [20] (λiv wr=>∃k:Nat,k<=L.length/\iv=.int .i64 k/\∃(F:Nat->Prop) (b:Bk) (v bv:Value),Hid (OR R S T k L wr F b v bv)) (λiv _=>L.length-(intOf iv).toNat)
  case atStart=>exact⟨0,nz _,rfl,_,_,_,_,yj⟩
  case round=>
   obtain⟨k,hk,rfl,F,b,v,bv,z⟩:=hrel
   by_cases u:k<L.length
   ·have zt:(k:Int)<(L.length:Int):=by omega
    have zj:Xs 1 dS wr (some ⟨w.heap.size,0,none⟩) L:=yn.oQ.butS z.oQ.w (λe=>by
     obtain⟨U,V,W,X,Y,Z,E|E⟩:=H.oQ
     ·rcases e with e|e<;>omega
     ·rw[E]at u;simp at u)
    have c0:=gO zj k L[k] (lge u);rw[Nat.zero_add]at c0;have zu:=bE yi.oQ z.oQ.w (λe=>by obtain⟨U,V,W,X,Y,Z,E⟩:=H.oQ;rcases e with e|e<;>omega);obtain⟨C,yt⟩:=F7 L k hk;have I:Hid _:=wP L k u;have zs:=ze _ (lgm u);obtain⟨x,hx⟩:=bP (L[k]);rw[←hx]at c0 I zs;obtain⟨st,Q⟩:=bP ((nP (L.take k)).1);obtain⟨o,ho⟩:=bP ((nP (L.take k)).2);have P:=z.oQ.i;have O:=z.oQ.d;have G:=wB C (bH 32 x);rw[←Q]at P C G;rw[←ho]at O yt;have n:Hid (nP (L.take (k+1))=((aX st (bH 32 x)).1,o++(aX st (bH 32 x)).2++XS)):=by rw[Hid,I.oQ,FN,←Q,←ho]
    clear hx Q ho zj I;go_wp2_with fail
    refine(ML F S wr st b v P k C (by omega) x zs r 9 zu).mono ?_;rintro e w4 ⟨⟨F',b',v',B,zd⟩,rfl,M⟩;obtain⟨an,zk⟩:=bP ((aX st (bH 32 x)).2);obtain⟨s4,zv⟩:=bP ((aX st (bH 32 x)).1);rw[←zk]at G n ⊢;rw[←zv]at B n
    have zf:¬F T:=λg=>by
     obtain⟨U,V,W,X,Y,Z,E⟩:=H.oQ
     rcases z.oQ.f T g with e|e<;>omega
    have zo:IS T bv o w4:=O.but M zf (λq y=>(z.oQ.b q y).2);have yg:=aG B;have yf:=aG zd;have yc:=aG M;have za:=aG B.e.s;clear zk zv B zd M zf O P zu c0 C;go_wp2_with fail
    refine(vY T bv o an w4 zo (by omega) za.oQ).mono ?_;rintro e w5 ⟨⟨yp,rfl,zp,zw⟩,N⟩;have yb:=aG (Nat.le_trans za.oQ N.size);have yl:=aG zw;have yd:=aG N
    have yo:Hid ((o++an).size+XS.size<=140737488355328):=by
     have e:XS.size=1:=rfl;rw[Hid,ByteArray.size_append,e];omega
    clear zw N zo;go_wp2_with fail
    refine(vY T yp (o++an) XS w5 zp yo.oQ yb.oQ).mono ?_;rintro e w6 ⟨⟨yq,rfl,zq,zx⟩,zl⟩
    have yh:Hid (OR R S T (k+1) L w6 F' b' v' yq):=by
     obtain⟨U,V,W,X,Y,Z,E⟩:=H.oQ;exact z.oQ.step (by omega) (by omega) (by omega) yg.oQ yf.oQ yc.oQ yl.oQ yd.oQ zq zx zl n.oQ
    clear zp zq zx zl;go_wp2
    go_roundw
    case rel=>exact⟨k+1,by omega,by go_num,_,_,_,_,yh⟩
    case measure=>simp[intOf];omega
   ·have zt:¬(k:Int)<(L.length:Int):=by omega
    have zr:L.take k=L:=ltl (by omega);have hd:=z.oQ.d;rw[zr]at hd;have zc:Hid (aF w wr):=z.oQ.w.under zb.oQ (nlq _) (λq e=>by obtain⟨U,V,W,X,Y,Z,E⟩:=H.oQ;rcases e with e|e<;>omega);have yk:Hid (w.heap.size<=T):=by obtain⟨U,V,W,X,Y,Z,E⟩:=H.oQ;rw[Hid];omega
    have ym:Hid (∀q,bv.ownBlock=some q->w.heap.size<=q):=λq y=>by have:=(z.oQ.b q y).1;have:=zb.oQ.size;omega
    clear zr;go_wp2_with fail
    refine(BK hd w.heap.size yk.oQ ym.oQ zc.oQ.size).mono ?_;rintro e w7 ⟨rfl,zm⟩;have ye:=aG (zc.oQ.trans zm);clear zm hd;go_wp2
    go_ret;exact⟨by rw[HR.oQ];rfl,ye.oQ⟩
 ·have t:decide ((eZ a).length<=300)=false:=decide_eq_false h3
  have HR:Hid (B6 a=CY):=by rw[Hid,m.oQ,if_neg h1,if_pos (by omega)]
  rw[t];clear t m h1 h3;go_wp2
  go_ret;exact⟨by rw[HR.oQ];rfl,j⟩
theorem zW (a:ByteArray)(w:World)(k:yL w):
 aY 3 #[.string a] w λe w'=>e=.returned (.bool true)/\aF w w':=by
 by_cases h1:1048576<a.size
 ·have g:decide ((1048576:Int)<(a.size:Int))=true:=by rw[dte];omega
  go_enter Tryz.func3,Tryz.ntmps3;go_wp2;go_ret;exact⟨rfl,br _ _⟩
 ·have g:decide ((1048576:Int)<(a.size:Int))=false:=by rw[decide_eq_false_iff_not];omega
  go_enter Tryz.func3,Tryz.ntmps3;go_wp2_with fail;refine(yD a w (by omega)).mono ?_;rintro e l ⟨rfl,b⟩;have i:=k.zL b;have d:Hid _:=b;obtain⟨A,h⟩:=cK (B6 a);have j:=aG h;rw[h];clear b h;go_wp2_with fail;refine(x8 a l i (by omega)).mono ?_;rintro e w2 ⟨rfl,c⟩;rw[j.oQ];have f:=aG (aC d.oQ c);have hq:(A.toList !=A.toList)=false:=by simp
  clear c;go_wp2;go_ret;exact⟨rfl,f.oQ⟩
end Go.Proofs.YtcdbcliaepcpfaaGreatDoor
