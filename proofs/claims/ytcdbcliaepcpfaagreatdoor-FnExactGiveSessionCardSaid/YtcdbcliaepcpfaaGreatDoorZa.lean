import Derived.Lib.SplitLaws
import Derived.Lib.Split
import Derived.Lib.IndexBytes
import Derived.Lib.IndexLaws
import Derived.Test.YtcdbcliaepcpfaaGreatDoorShelf
import Derived.Test.YtcdbcliaepcpfaaGreatDoorYg
namespace Go.Proofs.YtcdbcliaepcpfaaGreatDoor
open Go.RowKit Go.BigFrame
theorem uI:∀(l:List UInt8) (c:UInt8) (i:Nat),Lib.indexByte l c=(i:Int)->l[i]?=some c/\∀j,j<i->l[j]?≠some c
 |[],_,i,h=>by simp[Lib.indexByte]at h
 |b::l,c,i,h=>by
  unfold Lib.indexByte at h;split at h
  ·rename_i a;have:i=0:=by omega
   subst this;exact⟨by simpa using beq_iff_eq.1 a,λj g=>by omega⟩
  ·rename_i a;split at h;·omega
   ·have hge:=Lib.indexByte_ge l c;rename_i m;have hm':¬Lib.indexByte l c=-1:=λe=>m (beq_iff_eq.2 e);obtain⟨k,rfl⟩:∃k,i=k+1:=⟨i-1,by omega⟩;obtain⟨d,f⟩:=uI l c k (by omega);refine⟨by simpa using d,λj g=>?_⟩;cases j with
    |zero=>simpa using λe=>a (beq_iff_eq.2 e)
    |succ j=>simpa using f j (by omega)
theorem NI (s:ByteArray)(a f j:Nat)(h:a+j<=s.size):(s.extract a s.size).extract f j=s.extract (a+f) (a+j):=by
 apply ByteArray.ext;rw[ByteArray.data_extract,ByteArray.data_extract,ByteArray.data_extract,Array.extract_extract];congr 1;have:s.data.size=s.size:=rfl;omega
theorem sY (c:Int)(s:ByteArray)(a:Nat)(ha:a<=s.size):∀(m f j:Nat),s.size-(a+j)=m->a+j<=s.size->fE c (s.extract a s.size) f j=fE c s (a+f) (a+j)
 |m,f,j,h,hj=>by
  have g:(s.extract a s.size).size=s.size-a:=by rw[ByteArray.size_extract];omega
  by_cases e:a+j<s.size
  ·have b:j<(s.extract a s.size).size:=by omega
   have i:(s.extract a s.size)[j]=s[a+j]:=by
    rw[ByteArray.getElem_extract]
   by_cases d:(s[a+j].toNat:Int)=c
   ·rw[lF e d,lF b (by rw[i];exact d),NI s a f j hj];have:=sY c s a ha (s.size-(a+(j+1))) (j+1) (j+1) rfl (by omega);rw[this,Nat.add_assoc]
   ·rw[jY e d,jY b (by rw[i];exact d)];have:=sY c s a ha (s.size-(a+(j+1))) f (j+1) rfl (by omega);rw[this,Nat.add_assoc]
  ·have b:¬j<(s.extract a s.size).size:=by omega
   rw[lA e,lA b,g,NI s a f (s.size-a) (by omega),show a+(s.size-a)=s.size from by omega]
 termination_by m => m
theorem wS (c:Int)(s:ByteArray)(f i:Nat)(a:i<=s.size)(h:∀j (hj:j<s.size),j<i->¬(s[j].toNat:Int)=c):∀k,k<=i->fE c s f (i-k)=fE c s f i
 |0,_=>rfl
 |k+1,hk=>by
  rw[jY (by omega) (h _ (by omega) (by omega)),←wS c s f i a h k (by omega)];congr 1;omega
theorem JT (s:ByteArray):s.extract 0 s.size=s:=by
 apply ByteArray.ext;rw[ByteArray.data_extract];exact Array.extract_size
theorem AY (c:UInt8):∀(n:Nat) (s:ByteArray),s.size<=n->Lib.splitB ⟨#[c]⟩ 0 (Lib.countB s ⟨#[c]⟩) s=bH (c.toNat:Int) s
 |n,s,hn=>by
  have a:∀j (d:j<s.size),s.data.toList[j]?=some s[j]:=λj d=>by rw[lge (by simpa using d)];rfl
  have b:(⟨#[c]⟩:ByteArray).size=1:=rfl;rcases Lib.indexB_cases s ⟨#[c]⟩with h|⟨i,h,q⟩
  ·rw[Lib.splitB_miss _ _ _ _ h];have h':Lib.indexByte s.data.toList c=-1:=by rw[←Lib.index_one];exact h
   have k:=Lib.indexByte_none h';unfold bH
   rw[show fE (c.toNat:Int) s 0 0=fE (c.toNat:Int) s 0 s.size from by
    have:=wS (c.toNat:Int) s 0 s.size (nlq _) (λj d _ e=>k j (by rw[a j d];congr 1;exact UInt8.toNat_inj.1 (by omega))) s.size (nlq _);rwa[Nat.sub_self]at this,lA (by omega),JT]
  ·have h':Lib.indexByte s.data.toList c=(i:Int):=by rw[←Lib.index_one];exact h
   obtain⟨l,o⟩:=uI _ _ _ h';rw[b]at q;have f:i<s.size:=by omega
   rw[a i f]at l;have p:s[i]=c:=by simpa using l
   rw[Lib.countB_hit s ⟨#[c]⟩ i (show 1<=1 from nlq _) h,Nat.add_comm 1,Lib.splitB_hit _ _ _ _ i h,b,Nat.add_zero];have hsz:(s.extract (i+1) s.size).size=s.size-(i+1):=by rw[ByteArray.size_extract];omega
   rw[AY c (n-1) (s.extract (i+1) s.size) (by omega)];unfold bH
   have m:fE (c.toNat:Int) s 0 0=fE (c.toNat:Int) s 0 i:=by
    have:=wS (c.toNat:Int) s 0 i (by omega) (λj d g e=>o j g (by rw[a j d];congr 1;exact UInt8.toNat_inj.1 (by omega))) i (nlq _);rwa[Nat.sub_self]at this
   rw[m,lF f (by rw[p]),sY (c.toNat:Int) s (i+1) (by omega) _ 0 0 rfl (by omega)]
 termination_by _ s => s.size
structure yL (w:World):Prop where
 l:j9 w
 t:Lib.TabIs Tryz.prog w "internal/strconv.uint64pow10" .u64 Lib.pow10Tab
 m:∃m,w.cell? ⟨0,0,none⟩=some (.int .i64 m)
 s:8<=w.heap.size
theorem GN (s:ByteArray)(c:UInt8)(w:World)(d:yL w)(hs:s.size<=1048576):
 aY 24 #[.string s,.string ⟨#[c]⟩] w λe w'=>(e=.returned (.slice (some ⟨w.heap.size,0,none⟩) (bH (c.toNat:Int) s).length (bH (c.toNat:Int) s).length)/\Xs 1 dS w' (some ⟨w.heap.size,0,none⟩) (bH (c.toNat:Int) s))/\aF w w':=by
 obtain⟨m,f⟩:=d.m;refine(Tryz.strings_Split s ⟨#[c]⟩ m w (by omega) f (show 1<=1 from nlq _)).mono ?_;rintro e w' ⟨rfl,rfl⟩;have b:=Lib.splitB_all ⟨#[c]⟩ (show 1<=1 from nlq _) 0 _ s rfl;rw[AY c s.size s (nlq _)]at b ⊢;rw[b];refine⟨⟨rfl,?_⟩,aB (br _ _) _⟩
 have g:(w.alloc (.cells ((bH (c.toNat:Int) s).map Value.string).toArray 9)).ownsRow w.heap.size 9 1 (.slice (some ⟨w.heap.size,0,none⟩) (bH (c.toNat:Int) s).length (bH (c.toNat:Int) s).length) (bH (c.toNat:Int) s).length ((bH (c.toNat:Int) s).map Value.string):=
  ⟨by simp,.inr ⟨w.heap.size,_,_,rfl,nlq _,wnq w _,nlq _,by have:=kP (c.toNat:Int) s;unfold maxLen;omega,by simp,by simp[ltl]⟩⟩
 obtain⟨a,cc,e,hx⟩:=q9 g;cases e;exact hx
theorem K4 (w:World)(k:Nat)(os:Array Obj):aF w (Go.Sort.grow (w.drewN k) os):=by
 have h:=below_drewN (br w.heap.size w) k;refine h.trans ⟨rfl,rfl,rfl,by simp[Go.Sort.grow],λi hi=>?_⟩;have hs:=h.size;simp only[Go.Sort.grow];rw[Array.getElem?_append_left (by omega)]
theorem uS (n:Int)(w:World)(b:yL w)(h0:0<=n)(a:n<=9223372036854775807):aY 62 #[.int .i64 n] w λe w'=>e=.returned (.string (dD n))/\aF w w':=by
 refine(Tryz.strconv_Itoa n (by omega) a w b.t).mono ?_;rintro e w' ⟨rfl,k,os,rfl⟩;refine⟨by rw[Lib.itoa,if_neg (by omega)];rfl,?_⟩;exact K4 _ _ _
set_option maxRecDepth 100000
set_option maxHeartbeats 4000000
theorem yL.blocks {w w':World}(h:yL w)(hs:w.heap.size<=w'.heap.size)(a:∀k,k<8->w'.heap[k]?=w.heap[k]?):yL w':=by
 obtain⟨l,t,⟨m,b⟩,s⟩:=h;refine⟨?_,?_,⟨m,?_⟩,by omega⟩
 ·unfold j9 World.cell? at l ⊢;rw[a _ (by decide)];exact l
 ·unfold Lib.TabIs World.var? at t ⊢;rw[show Tryz.prog.globalNamed "internal/strconv.uint64pow10"=some 4 from by kernel_rfl]at t ⊢;simp only[Option.bind_some]at t ⊢;rw[a 4 (by decide)];exact t
 ·unfold World.cell? at b ⊢;rw[a _ (by decide)];exact b
theorem yL.zL {w w':World}(h:yL w)(a:aF w w'):yL w':=h.blocks a.size (λk hk=>a.block k (by have:=h.s;omega))
theorem yL.but {S:Nat->Prop}{w w':World}(h:yL w)(a:aT S w w')(b:∀k,S k->8<=k):yL w':=h.blocks a.size (λk hk=>a.block k (by have:=h.s;omega) (λe=>by have:=b k e;omega))
theorem uG (c:Int)(w:World)(d:yL w)(a:0<=c)(b:c<=2000000):aY 61 #[.int .i64 c] w λe w'=>e=.returned (.string (iK c))/\aF w w':=by
 have hs:=bG b;go_enter Tryz.func61,Tryz.ntmps61;go_wp2_with fail;refine(uS c w d a (by omega)).mono ?_;rintro e w' ⟨rfl,f⟩;have hz:¬9223372036854775807<5+(dD c).size:=by omega
 go_wp2;go_ret;exact⟨rfl,f⟩
def pK (a b:Int):ByteArray:=dD a++UJ++dD b
theorem NF {a b:Int}(c:a<=2000000)(d:b<=2000000):(pK a b).size<=4000003:=by
 have:=bG c;have:=bG d;have e:UJ.size=1:=rfl;simp only[pK,ByteArray.size_append,e];omega
theorem AM (a b:Int)(w:World)(g:yL w)(i:0<=a)(j:a<=2000000)(k:0<=b)(l:b<=2000000):aY 69 #[.int .i64 a,.int .i64 b] w λe w'=>e=.returned (.string (pK a b))/\aF w w':=by
 have hs:=bG j;have hs2:=bG l;go_enter Tryz.func69,Tryz.ntmps69;go_wp2_with fail;refine(uS a w g i (by omega)).mono ?_;rintro e m ⟨rfl,c⟩;have f:=g.zL c;have hz:¬9223372036854775807<(dD a).size+1:=by omega
 go_wp2_with fail;refine(uS b m f k (by omega)).mono ?_;rintro e w2 ⟨rfl,d⟩;have hz2:¬9223372036854775807<(dD a).size+1+(dD b).size:=by omega
 have h:=aG (aC c d);clear c d;go_wp2;go_ret;exact⟨rfl,h.oQ⟩
def ZB (a z:Bx)(n m bl off:Nat)(va:Value)(s0 s1 s2 s3:ByteArray)(j:Nat)(v:Value)(_w:World):Prop:=
 match j with
 |0|4|8|9=>v=va
 |1|10=>v=.int .i64 (n:Int)
 |2=>v=.string s0
 |3=>v=.string s1
 |5=>v=.pointer (some ⟨bl,off,none⟩)
 |6=>v=.pointer (some ⟨bl,off+4,none⟩)
 |7=>v=.int .i64 a.i
 |11=>v=.int .i64 (m:Int)
 |12=>v=.pointer (some ⟨bl,off+m*6,none⟩)
 |13=>v=.pointer (some ⟨bl,off+m*6+5,none⟩)
 |14=>v=.int .i64 z.o
 |15=>v=.string s2
 |16=>v=.string s3
 |_=>True
theorem uD (l:List Bx)(ao:Option Addr)(A:Nat)(w:World)(hE:yL w)(hX:jJ w ao l)(hn:l.length<=1048576)(L:∀b∈l,0<=b.i/\b.i<=2000000/\0<=b.o/\b.o<=2000000):
 aY 71 #[.slice ao l.length A] w λe w'=>e=.returned (.string (iG l))/\aF w w':=by
 cases l with
 |nil=>
  go_enter Tryz.func71,Tryz.ntmps71;go_wp2;go_ret;exact⟨rfl,br _ _⟩
 |cons b r=>
  obtain⟨l,E⟩:=bP (b::r);have c:l≠[]:=by rw[E];simp
  have d:Hid (iG (b::r)=dD (l.length:Int)++⟨#[64]⟩++pK (l.head c).i (l.getLast c).o):=by
   subst E;show dD _++⟨#[64]⟩++dD _++⟨#[45]⟩++dD _=dD _++⟨#[64]⟩++(dD _++⟨#[45]⟩++dD _);simp only[ByteArray.append_assoc];rfl
  rw[←E]at hX hn L ⊢;rw[←E]at d;clear E b r;rcases hX with h|⟨bl,H,rfl,U⟩;·exact absurd h c
  have F:0<l.length:=List.length_pos_iff.2 c;have R:=U 0 F;have S:=U (l.length-1) (by omega);obtain⟨a,n⟩:=bP (l.head c);obtain⟨z,t⟩:=bP (l.getLast c);have ea:l[0]=a:=by rw[n,List.head_eq_getElem]
  have ez:l[l.length-1]'(by omega)=z:=by rw[t,List.getLast_eq_getElem]
  rw[ea]at R;rw[ez]at S;obtain⟨T,D,_,_⟩:=L a (by rw[n];exact List.head_mem _);obtain⟨_,_,W,G⟩:=L z (by rw[t];exact List.getLast_mem _);rw[←n,←t]at d;clear n t ea ez c U L;obtain⟨m,hm⟩:=bP (l.length-1);have hlm:(l.length:Int)-1=(m:Int):=by omega
  have hml:m<l.length:=by omega
  have hne0:((l.length:Int)==0)=false:=by rw[beq_eq_false_iff_ne];omega
  rw[←hm]at S;rw[Nat.zero_mul,Nat.add_zero]at R;clear hm;obtain⟨_,_,_,_,y,_⟩:=R;obtain⟨_,_,_,_,_,B⟩:=S;obtain⟨I,f⟩:∃s,s=dD (l.length:Int):=⟨_,rfl⟩;obtain⟨J,g⟩:∃s,s=I++(⟨#[64]⟩:ByteArray):=⟨_,rfl⟩;obtain⟨K,j⟩:∃s,s=pK a.i z.o:=⟨_,rfl⟩;obtain⟨M,k⟩:∃s,s=J++K:=⟨_,rfl⟩;have X:I.size<=2000001:=by rw[f];exact bG (by omega)
  have Y:J.size=I.size+1:=by rw[g,ByteArray.size_append];rfl
  have Z:K.size<=4000003:=by rw[j];exact NF D G
  have za:M.size=J.size+K.size:=by rw[k,ByteArray.size_append]
  have gs1:¬9223372036854775807<I.size+1:=by omega
  have gs3:¬9223372036854775807<J.size+K.size:=by omega
  have HT:Hid (iG l=M):=by rw[Hid,d.oQ,←f,←g,←j,←k]
  have O:=aG f;have fs1:=g.symm;have P:=aG j;have fs3:=k.symm;clear d f X g Y j Z k za;go_enter Tryz.func71,Tryz.ntmps71;go_upto_region 3 with fail;refine pG 17 [some 6,some 7,some 8,some 9,some 10,some 11,some 12,some 13,some 14,some 15,some 16,some 17,some 18,some 19,some 20,some 21,some 22] (ZB a z l.length m bl H (.slice (some ⟨bl,H,none⟩) l.length A) I J K M) (λ_ _ _ _ h _=>h) ?step ?fin
  case step=>
   intro ii o N w' V u v p;have z0z:=(v.cell (aA y)).trans y;have z1z:=(v.cell (aA B)).trans B;match ii,V with
   |1,_|3,_|5,_|6,_|7,_|10,_|11,_|12,_|13,_|14,_|16,_=>
    simp at u;subst u;simp[Region.binds,ZB]at p;simp only[aE,Act.put,p];gi_wp2;exact⟨_,by simp[aH,p],rfl,br _ _⟩
   |0,_|4,_|8,_|9,_=>
    simp at u;subst u;simp only[aE,Act.put];gi_wp2;exact⟨_,by simp[aH],rfl,br _ _⟩
   |2,_=>
    simp at u;subst u;simp[Region.binds,ZB]at p;simp only[aE,Act.put,p];gi_wp2_with fail;refine⟨trivial,rfl,?_⟩;refine(cw.2 (uS (l.length:Int) w' (hE.zL v) (by omega) (by omega))).mono ?_;rintro e w5 ⟨rfl,x⟩;rw[←O.out];gi_wp2;exact⟨_,by simp[aH,p],rfl,x⟩
   |15,_=>
    simp at u;subst u;simp[Region.binds,ZB]at p;simp only[aE,Act.put,p];gi_wp2_with fail;refine⟨trivial,rfl,?_⟩;refine(cw.2 (AM a.i z.o w' (hE.zL v) T D W G)).mono ?_;rintro e w5 ⟨rfl,x⟩;rw[←P.out];gi_wp2;exact⟨_,by simp[aH,p],rfl,x⟩
   |q+17,h=>exact absurd h (by omega)
  case fin=>
   intro N w8 v hp;have C:N 16=.string M:=hp 16 (by decide);have Q:=aG v;clear hp v;simp only[lds,List.drop_zero,aE,Act.put];rw[C];clear C;generalize N=N;gi_wp2_with fail;go_wp2;go_ret;exact⟨by rw[HT.oQ];rfl,Q.oQ⟩
def ZR (vn:Value)(g oo:Nat)(x y:Int)(j:Nat)(v:Value)(_w:World):Prop:=
 match j with
 |0|3=>v=vn
 |1=>v=.pointer (some ⟨g,oo,none⟩)
 |2=>v=.int .i64 x
 |4=>v=.pointer (some ⟨g,oo+1,none⟩)
 |5=>v=.int .i64 y
 |6=>v=.agg #[.int .i64 x,.int .i64 y]
 |_=>True
theorem L3 (s:ByteArray)(w:World)(hE:yL w)(hs:s.size<=1048575):
 aY 99 #[.string s] w λe w'=>((∃x y,bH 44 s=[x,y]/\jG [x,y]=true/\e=.returned (.agg #[.int .i64 (aV x),.int .i64 (aV y)]))∨((jG (bH 44 s)=false∨¬(bH 44 s).length=2)/\e=S8))/\aF w w':=by
 have c:aF w (w.alloc (.cells #[.int .i64 0,.int .i64 0] 120)):=aB (br _ _) _;have r:=hE.zL c;have l:=wnq w (.cells #[.int .i64 0,.int .i64 0] 120);obtain⟨W0,T⟩:=cK (w.alloc (.cells #[.int .i64 0,.int .i64 0] 120));rw[T]at c r l;have k:=kP 44 s;go_enter Tryz.func99,Tryz.ntmps99;go_wp2_with fail;refine(GN s 44 W0 r (by omega)).mono ?_;rintro e w1 ⟨⟨rfl,d⟩,t⟩;rw[show(((44:UInt8).toNat:Nat):Int)=44 from rfl]at d ⊢;have m:=aG (aC c t);have F:=bJ l t;clear c t l r;obtain⟨q,W⟩:=bP (bH 44 s);rw[←W]at d k ⊢;have K:=aG W;clear W;go_wp2_with fail;refine(jM q _ _ w1 d (by omega)).mono ?_;rintro e w2 ⟨⟨I,v2,rfl,H⟩|⟨j,rfl⟩,a⟩
 ·obtain⟨a2,c2,rfl,X⟩:=pC (eC q).symm H;rw[eC]at*;have b:=aG (aC m.oQ a);have G:=bJ F a;clear a m H F;by_cases L:q.length=2
  ·obtain⟨B,C,rfl⟩:∃B C,q=[B,C]:=by
    match q,L with
    |[B,C],_=>exact⟨B,C,rfl⟩
   rcases X with h|⟨g,N,rfl,u⟩;·cases h
   have z:w2.cell? ⟨g,N,none⟩=some (.int .i64 (aV B)):=by have:=u 0 (by simp[aS]) 0 _ rfl;simpa[aS]using this
   have A:w2.cell? ⟨g,N+1,none⟩=some (.int .i64 (aV C)):=by have:=u 1 (by simp[aS]) 0 _ rfl;simpa[aS]using this
   obtain⟨f,R⟩:∃n,n=aV B:=⟨_,rfl⟩;obtain⟨i,S⟩:∃n,n=aV C:=⟨_,rfl⟩;have HY:Hid (∃x y,bH 44 s=[x,y]/\jG [x,y]=true/\Ending.returned (.agg #[.int .i64 f,.int .i64 i])=.returned (.agg #[.int .i64 (aV x),.int .i64 (aV y)])):=⟨B,C,K.oQ.symm,o9 I,by rw[R,S]⟩;rw[←R]at z;rw[←S]at A;have HA:=aG G;clear R S u I L K k d G;go_wp2_with (go_at_call 36;refine(gD _).mono ?_;rintro e w' ⟨⟨v,rfl⟩,rfl⟩);refine pG 7 [some 11,some 12,some 13,some 14,some 15,some 16,some 17] (ZR (.slice (some ⟨g,N,none⟩) 2 c2) g N f i) (λ_ _ _ _ h _=>h) ?step ?fin
   case step=>
    intro ii o O w' V M D U;have z0z:=(D.cell (aA z)).trans z;have z1z:=(D.cell (aA A)).trans A;match ii,V with
    |1,_|2,_|4,_|5,_|6,_=>
     simp at M;subst M;simp[Region.binds,ZR]at U;simp only[aE,Act.put,U];gi_wp2;exact⟨_,by simp[aH,U],rfl,br _ _⟩
    |0,_|3,_=>
     simp at M;subst M;simp only[aE,Act.put];gi_wp2;exact⟨_,by simp[aH],rfl,br _ _⟩
    |q+7,h=>exact absurd h (by omega)
   case fin=>
    intro O J D hp;have Z:O 6=.agg #[.int .i64 f,.int .i64 i]:=hp 6 (by decide);have E:=bJ HA.oQ D;have r0:J.cell? ⟨w.heap.size,0,none⟩=some (.int .i64 0):=aJ E rfl;have r1:J.cell? ⟨w.heap.size,1,none⟩=some (.int .i64 0):=aJ E rfl;have rf:=iQ E;have k1:=aO E 0 (.int .i64 f);have Y:=aO k1 1 (.int .i64 i);have P:Hid (aF w ((J.setCell ⟨w.heap.size,0,none⟩ (.int .i64 f)).setCell ⟨w.heap.size,1,none⟩ (.int .i64 i))):=((aC b.oQ D).setCell (p:=⟨w.heap.size,0,none⟩) (nlq _) _).setCell (p:=⟨w.heap.size,1,none⟩) (nlq _) _;have q0:((J.setCell ⟨w.heap.size,0,none⟩ (.int .i64 f)).setCell ⟨w.heap.size,1,none⟩ (.int .i64 i)).cell? ⟨w.heap.size,0,none⟩=some (.int .i64 f):=aJ Y rfl;have q1:((J.setCell ⟨w.heap.size,0,none⟩ (.int .i64 f)).setCell ⟨w.heap.size,1,none⟩ (.int .i64 i)).cell? ⟨w.heap.size,1,none⟩=some (.int .i64 i):=aJ Y rfl;clear hp D E k1 Y;simp only[lds,List.drop_zero,aE,Act.put];rw[Z];clear Z;generalize O=O;gi_wp2_with fail;go_wp2_with fail;exact bpr (v:=.agg #[.int .i64 f,.int .i64 i]) (by simp[results,Tryz.results99,go_sem,q0,q1]) rfl ⟨.inl HY.oQ,P.oQ⟩
  ·have Q:Hid (jG (bH 44 s)=false∨¬(bH 44 s).length=2):=.inr (by rw[←K.oQ];exact L);have h2':((q.length:Int)==2)=false:=by rw[beq_eq_false_iff_ne];omega
   clear L;go_wp2_with (go_at_call 36;refine(jD _).mono ?_;rintro e w' ⟨rfl,rfl⟩);exact⟨rfl,.inr ⟨Q.oQ,rfl⟩,b.oQ⟩
 ·have Q:Hid (jG (bH 44 s)=false∨¬(bH 44 s).length=2):=.inl (by rw[←K.oQ];exact qO j);have b:=aG (aC m.oQ a);clear j a;go_wp2;exact⟨rfl,.inr ⟨Q.oQ,rfl⟩,b.oQ⟩
set_option maxHeartbeats 8000000
def VC (w w':World):Prop:=∀(k:Nat) (c:Array Value) (t:Nat),(t=118∨t=120∨t=3)->w.heap[k]?=some (.cells c t)->w'.heap[k]?=w.heap[k]?
theorem VC.from {w w' b:World}(d:aF w w')(h:VC w' b):VC w b:=λk c t f a=>by
 have e:=d.block k (gT a);rw[←e]at a ⊢;exact h k c t f a
structure zF (w:World)(v:Value)(cs:List (List Cx)):Prop where
 e:∃wa wl wc,v=.slice wa wl.length wc/\wl.map Yx.l=cs/\(∀w',VC w w'->Xs 1 Yx.cells w' wa wl/\∀y∈wl,y.In w')/\∀y∈wl,y.l.length<=y.c/\y.c<=9223372036854775807
theorem zF.zL {w w':World}{v:Value}{a:List (List Cx)}(h:zF w v a)(i:aF w w'):zF w' v a:=by
 obtain⟨k,l,wc,b,c,d,f⟩:=h.e;exact⟨k,l,wc,b,c,λj g=>d j (g.from i),f⟩
theorem DV.doneK {l:Nat}{v:Value}{f:List (List Cx)}{w:World}{g:List Yx}{y:Yx}{B:Nat}(h:DV l v f w g y B):zF w v f:=by
 have j:=h.out;rw[show g.length+1=(g++[y]).length by simp]at j;obtain⟨a,c,e,_⟩:=nI Yx.cells_length j;refine⟨a,g++[y],c,e,by rw[←h.eq];simp,λw' i=>⟨?_,λx b=>?_⟩,λx b=>?_⟩
 ·obtain⟨a',c',m,hx,_⟩:=nI Yx.cells_length (i6 j (λk f _ d=>i k f _ (.inl rfl) d));cases e.symm.trans m;exact hx
 ·rcases lma.1 b with b|b;·exact h.dw w' (λk c _ d=>i k c _ (.inr (.inl rfl)) d) x b
  ·rw[List.mem_singleton.1 b];exact FT h.yo (λk c d=>i k c _ (.inr (.inl rfl)) d)
 ·rcases lma.1 b with b|b;·exact h.dc x b
  ·rw[List.mem_singleton.1 b];exact vD h.yo
def KT (O m:Nat)(y:Yx)(x:ByteArray)(n0 n1:Int)(GD:Prop)(j:Nat)(vs:Nat->Value)(w:World):Prop:=
 match j with
 |0=>vs 0=.pointer (some ⟨O,m,none⟩)
 |1=>vs 1=.pointer (some ⟨O,m,none⟩)
 |2=>vs 2=.pointer (some ⟨O,m,none⟩)
 |3=>vs 3=.pointer (some ⟨O,m,none⟩)
 |4=>vs 4=.slice y.a y.l.length y.c
 |5=>vs 5=.string x
 |6=>vs 6=.agg #[.int .i64 n0,.int .i64 n1]/\GD
 |7=>(∃p,vs 7=.slice (some ⟨p,0,none⟩) 1 1/\w.heap[p]?=some (.cells #[.int .i64 n0,.int .i64 n1] 120))/\GD
 |_=>True
theorem KT.zL {O m:Nat}{y:Yx}{x:ByteArray}{b c:Int}{a:Prop}(j:Nat)(d:Nat->Value)(w w':World)(h:KT O m y x b c a j d w)(i:aF w w'):KT O m y x b c a j d w':=by
 unfold KT at*;split at h
 all_goals first
  |exact h
  |(obtain⟨⟨p,e,f⟩,g⟩:=h;exact⟨⟨p,e,bJ f i⟩,g⟩)
def XG (j:Nat):List Nat:=[j]
def TO (j:Nat):Bool:=j==0
theorem KT.loc {O m:Nat}{y:Yx}{x:ByteArray}{d f:Int}{c:Prop}(j:Nat)(b a:Nat->Value)(w:World)(g:∀q∈XG j,b q=a q)(h:KT O m y x d f c j b w):KT O m y x d f c j a w:=by
 have e:b j=a j:=g j (by simp[XG]);unfold KT at*;split at h
 all_goals first
  |(rw[←e];exact h)
  |trivial
def YK (O m:Nat)(_:Nat)(v:Value):Prop:=v=.pointer (some ⟨O,m,none⟩)
theorem KT.free {O m:Nat}{y:Yx}{x:ByteArray}{d e:Int}{c:Prop}(j:Nat)(b:Nat->Value)(w:World)(a:TO j=true)(h:KT O m y x d e c j b w):YK O m j (b j):=by
 simp[TO]at a;subst a;exact h
structure Z9 (W:World)(O m:Nat)(y:Yx)(B:Nat)(c:Cx)(GD:Prop)(t:Nat)(vs:Nat->Value)(w':World):Prop where
 g:GD
 a:t=8->aF W w'/\vs 4=.slice y.a y.l.length y.c/\∃p,vs 7=.slice (some ⟨p,0,none⟩) 1 1/\w'.heap[p]?=some (.cells #[.int .i64 c.x,.int .i64 c.y] 120)
 b:9<=t->∃w0,aF W w0/\w'.ownsRow B 120 2 (vs 8) (y.l.length+1) (aI Cx.cells y.l++c.cells)/\w0.grownBy w' (Value.slice y.a y.l.length y.c).ownBlock
 c:10<=t->vs 9=.pointer (some ⟨O,m,none⟩)
 d:11<=t->vs 10=.pointer (some ⟨O,m,none⟩)
theorem LW (l:List ByteArray)(a:Option Addr)(V:Nat)(w:World)(hE:yL w)(hX:Xs 1 dS w a l)(hn:l.length<=1048576)(hs:∀x∈l,x.size<=1048575):
 aY 59 #[.slice a l.length V] w λe w'=>((∃F,fI l=some F/\∃v,e=.returned v/\zF w' v F)∨(fI l=none/\e=S8))/\aF w w':=by
 obtain⟨iw,yn,yp,yq,yr⟩:=info_parts Tryz.info118;obtain⟨ic,ym,yj,yk,yl⟩:=info_parts Tryz.info120;have yg:aF w (w.alloc (.cells #[.slice none 0 0] 118)):=aB (br _ _) _;have yb:Hid _:=EF (wnq w (.cells #[.slice none 0 0] 118)) (nlq _)
 go_enter Tryz.func59,Tryz.ntmps59
 go_wp2
 go_loopw [3,11] (λv iv wr=>∃(k:Nat) (F:List (List Cx)) (H:List Yx) (y:Yx) (B:Nat),k<=l.length/\iv=.int .i64 k/\Hid (fI (l.take k)=some F)/\Hid (DV w.heap.size v F wr H y B)/\Hid (H.length<=k/\y.l.length<=k)/\aF w wr) (λ_ iv _=>l.length-(intOf iv).toNat)
 case atStart=>exact⟨0,[[]],[],⟨none,[],0⟩,_,nz _,rfl,rfl,yb.oQ,⟨nlq _,nlq _⟩,yg⟩
 case round=>
  obtain⟨k,F,H,y,B,hk,rfl,HC,T,HL,hN⟩:=hrel
  by_cases L:k<l.length
  ·have zu:(k:Int)<(l.length:Int):=by omega
   rcases hX.zL hN with h|⟨bl,ys,yi,zr⟩
   ·rw[h]at L;simp at L
   subst yi;have c0:wr.cell? ⟨bl,ys+k*1,none⟩=some (.string l[k]):=zr k L 0 _ rfl;rw[Nat.mul_one]at c0;have HS:Hid _:=BF l k L;rw[HC.oQ]at HS;have zw:=hs _ (lgm L);obtain⟨x,hx⟩:=bP (l[k]);rw[←hx]at c0 HS zw;clear zr hx hX HC
   by_cases W:x.toList=[47]
   ·have zh:=aG (HS.oQ.trans (OE W))
    clear HS;have U:Hid _:=T.oQ.zL (aB (br _ wr) (.cells #[.slice none 0 0] 118));clear T
    go_wp2_with (at_builtin;refine wpList_append_own _ rfl (.tmp 17) (.tmp 19) 76 rfl w.heap.size 118 iw _ 1 24 Tryz.underlying76 yn yp yq yr rfl (by decide) _ _ _ rfl U.oQ.out ⟨wr.heap.size,0,none⟩ 1 1 [.slice none 0 0] rfl rfl ?qc1 ?qc2 ?qc3 ?qc4 ?qc5 ?_)
    case qc1=>
     intro j u hj
     match j,hj with
     |0,hj=>simp at hj;subst hj;exact aJ (wnq wr _) rfl
     |j+1,hj=>simp at hj
    case qc2=>first|rfl|(intro u hu;simp at hu;subst hu;rfl)
    case qc3=>have:=HL.oQ;unfold maxLen;omega
    case qc4=>have:=HL.oQ;omega
    case qc5=>have:=hN.size;simp;omega
    intro v' w4 N D _;have yc:=aG (U.oQ.next N D);have yh:aF w w4:=(aB hN _).grown D (by have:=hN.size;simp;omega) (λq hq=>fB U.oQ.out hq);clear N D U;go_wp2
    go_roundw
    case rel=>exact⟨k+1,F++[[]],H++[y],⟨none,[],0⟩,_,by omega,by go_num,zh,yc,⟨by have:=HL.oQ;simp;omega,nz _⟩,yh⟩
    case measure=>simp[intOf];omega
   ·have hsl2:(x.toList==[47])=false:=by simp[W]
    have zn:Hid (jG (bH 44 x)=false∨¬(bH 44 x).length=2->fI l=none):=λh=>wM (HS.oQ.trans (FX W h));obtain⟨P,e0⟩:∃n,n=aV ((bH 44 x).getD 0 ⟨#[]⟩):=⟨_,rfl⟩;obtain⟨Q,e1⟩:∃n,n=aV ((bH 44 x).getD 1 ⟨#[]⟩):=⟨_,rfl⟩;obtain⟨S,zi⟩:∃S:Prop,S=∃p q,bH 44 x=[p,q]/\jG [p,q]=true:=⟨_,rfl⟩;have ya:Hid (∀p q,bH 44 x=[p,q]->jG [p,q]=true->S):=λp q J h2=>by rw[zi];exact⟨p,q,J,h2⟩
    have za:Hid (∀p q,bH 44 x=[p,q]->P=aV p/\Q=aV q):=λp q h=>by rw[e0,e1,h];exact⟨rfl,rfl⟩
    have zf:Hid (S->fI (l.take (k+1))=some (F.dropLast++[F.getLastD []++[⟨P,Q⟩]])):=λh=>by
     rw[zi]at h;obtain⟨p,q,J,h2⟩:=h;obtain⟨rfl,rfl⟩:=za.oQ p q J;exact HS.oQ.trans (KG W J h2)
    clear e0 e1 zi HS
    obtain⟨O,zo,rfl⟩:∃O c,u3=.slice (some ⟨O,0,none⟩) (H.length+1) c:=by
     obtain⟨_,⟨_,e⟩|⟨g,V,_,e,_⟩⟩:=T.oQ.out
     ·omega
     ·exact⟨g,V,e⟩
    have yd:Hid (∃G,wr.heap[O]?=some (.cells G 118)):=by
     obtain⟨_,⟨e,_⟩|⟨g,V,G,e,_,e2,_⟩⟩:=T.oQ.out
     ·cases e
     ·cases e;exact⟨G,e2⟩
    have ko:wr.cell? ⟨O,H.length,none⟩=some (.slice y.a y.l.length y.c):=by
     have hx:Xs 1 Yx.cells wr (some ⟨O,0,none⟩) (H++[y]):=by
      have s:=T.oQ.out;rw[show H.length+1=(H++[y]).length by simp]at s;obtain⟨a,c,e,hx,_⟩:=nI Yx.cells_length s
      cases e
      exact hx
     rcases hx with h|⟨bb,oo,e,hc⟩
     ·simp at h
     ·cases e
      have:=hc H.length (by simp) 0 _ rfl
      simpa using this
    obtain⟨m,hm⟩:=bP H.length;have HM:=aG hm;rw[←hm]at ko ⊢;clear hm;have I:Hid (m<=k/\y.l.length<=k):=by rw[Hid,HM.oQ];exact HL.oQ
    clear HL;have hmk:m<=1048576:=by have:=I.oQ;omega
    have hm1:((m+1:Nat):Int)-1=(m:Int):=by omega
    go_upto_region 8 with fail
    refine SZ 6 8 11 [some 26,some 27,some 28,some 29,some 30,some 31,some 32,some 33,some 34,some 35,some 36] TO XG (KT O m y x P Q S) (YK O m) (Z9 wr O m y B ⟨P,Q⟩ S) KT.zL KT.loc KT.free ?step ?free ?g0 ?gf ?store ?fin
    case step=>
     intro ii o R w' zt s z A;have z2z:=(z.cell (aA ko)).trans ko
     match ii,zt with
     |2,_|3,_|4,_=>
      simp at s;subst s
      simp[Region.binds,KT]at A
      simp only[aE,Act.put,A];gi_wp2;exact⟨_,by simp[aH,A],rfl,br _ _⟩
     |0,_|1,_|5,_=>
      simp at s;subst s;simp only[aE,Act.put];gi_wp2;exact⟨_,by simp[aH],rfl,br _ _⟩
     |6,_=>
      simp at s;subst s
      simp[Region.binds,KT]at A
      simp only[aE,Act.put,A];gi_wp2_with fail
      refine⟨trivial,rfl,?_⟩;refine(cw.2 (L3 x w' ((hE.zL hN).zL z) zw)).mono ?_
      rintro e w5 ⟨⟨p,q,hc,zv,rfl⟩|⟨zb,rfl⟩,zk⟩
      ·obtain⟨rfl,rfl⟩:=za.oQ p q hc
       have HG:Hid S:=ya.oQ p q hc zv;clear hc zv;gi_wp2;exact⟨_,by simp[aH,A],⟨rfl,HG.oQ⟩,zk⟩
      ·have HZ:=aG (zn.oQ zb)
       have zg:=aG (aC (aC hN z) zk);clear zb zk;gi_wp2;exact⟨rfl,.inr ⟨HZ.oQ,rfl⟩,zg.oQ⟩
     |7,_=>
      simp at s;subst s;obtain⟨d6,f⟩:=Zq A 6;have HG:Hid S:=f;clear A f;simp only[aE,Act.put,d6];gi_wp2;exact⟨_,by simp[aH,d6],⟨⟨_,rfl,wnq w' _⟩,HG.oQ⟩,aB (br _ _) _⟩
     |q+8,h=>exact absurd h (by omega)
    case free=>
     intro i o R w' t zt zl s ht htM f A;have zm:i=0:=by simpa[TO]using zl
     subst zm;clear f A;simp at s;subst s;simp only[aE,Act.put];gi_wp2;exact⟨.pointer (some ⟨O,m,none⟩),by simp[aH],rfl,trivial⟩
    case g0=>
     intro R w' z hp;exact⟨(hp 7 (by decide) rfl).2,λ_=>⟨z,hp 4 (by decide) rfl,(hp 7 (by decide) rfl).1⟩,λh=>absurd h (by decide),λh=>absurd h (by decide),λh=>absurd h (by decide)⟩
    case gf=>
     intro t R w' i v zl f;have zm:i=0:=by simpa[TO]using zl
     subst zm;exact⟨f.g,f.a,f.b,f.c,f.d⟩
    case store=>
     intro t o R w' h12 h15 s f A;have HG:Hid S:=f.g;have ht:t=8∨t=9∨t=10:=by omega
     rcases ht with rfl|rfl|rfl
     ·simp at s
      subst s;obtain⟨z,d4,p,d7,hp⟩:=f.a rfl;have HY:Hid _:=T.oQ.zL z;have zx:=aG z
      have M:∀j u,((⟨P,Q⟩:Cx).cells)[j]?=some u->w'.cell? ((⟨p,0,none⟩:Addr).add j)=some u:=λj u h=>by
       rw[Addr.add_lit,Nat.zero_add]
       match j,h with
       |0,h=>simp[Cx.cells]at h;subst h;exact aJ hp rfl
       |1,h=>simp[Cx.cells]at h;subst h;exact aJ hp rfl
      have zd:∀u∈(⟨P,Q⟩:Cx).cells,u.oneCell'=true:=λu hu=>by
       simp[Cx.cells]at hu
       rcases hu with rfl|rfl<;>rfl
      clear f A z;simp only[aE,Act.put,List.setIfInBounds_toArray,List.set_cons_succ,List.set_cons_zero];rw[d4,d7];refine wpListIn_append_own w' rfl (.tmp 30) (.tmp 33) 116 rfl B 120 ic _ 2 16 Tryz.underlying116 ym yj yk yl rfl (by decide) (.slice y.a y.l.length y.c) y.l.length (aI Cx.cells y.l) rfl HY.oQ.yo ⟨p,0,none⟩ 1 1 (⟨P,Q⟩:Cx).cells rfl rfl M zd (by have:=I.oQ;unfold maxLen;omega) (by have:=I.oQ;omega) HY.oQ.hi (λv1 w1 r C _=>?_);have zy:=aG r;have zz:=aG C;clear r C M zd;gi_wp2;exact⟨v1,by simp[aH,d4,d7],HG.oQ,λh=>absurd h (by decide),λ_=>⟨w',zx.oQ,zy.oQ,zz.oQ⟩,λh=>absurd h (by decide),λh=>absurd h (by decide)⟩
     ·simp at s
      subst s;have d0:R 0=.pointer (some ⟨O,m,none⟩):=A (eD 0) (by simp) rfl (by decide) rfl;have ze:Hid (∃w0,aF wr w0/\w'.ownsRow B 120 2 (R 8) (y.l.length+1) (aI Cx.cells y.l++(⟨P,Q⟩:Cx).cells)/\w0.grownBy w' (Value.slice y.a y.l.length y.c).ownBlock):=f.b (by decide);clear f A;simp only[aE,Act.put,d0];gi_wp2;exact⟨_,by simp[aH,d0],HG.oQ,λh=>absurd h (by decide),λ_=>ze.oQ,λ_=>rfl,λh=>absurd h (by decide)⟩
     ·simp at s
      subst s;have d9:=f.c (by decide);have ze:Hid (∃w0,aF wr w0/\w'.ownsRow B 120 2 (R 8) (y.l.length+1) (aI Cx.cells y.l++(⟨P,Q⟩:Cx).cells)/\w0.grownBy w' (Value.slice y.a y.l.length y.c).ownBlock):=f.b (by decide);clear f A;simp only[aE,Act.put,d9];gi_wp2;exact⟨_,by simp[aH,d9],HG.oQ,λh=>absurd h (by decide),λ_=>ze.oQ,λ_=>d9,λ_=>rfl⟩
    case fin=>
     intro R w' f hp;have zh:=aG (zf.oQ f.g);have zp:=f.d (by decide);obtain⟨w0,z,r,C⟩:=f.b (by decide);have HY:Hid _:=T.oQ.zL z;obtain⟨v1,X⟩:=bP (R 8);rw[←X]at r;have zs:=DV.cell ⟨P,Q⟩ HY.oQ r C;rw[←HM.oQ]at zs;obtain⟨Z,Y,zj⟩:=zs;obtain⟨G,zc⟩:=yd.oQ;have E:w0.heap[O]?=some (.cells G 118):=bJ zc z;have K:w'.heap[O]?=some (.cells G 118):=(qZ HY.oQ.yo C E (by decide)).trans E
     have hk2:w'.cell? ⟨O,m,none⟩=some (.slice y.a y.l.length y.c):=by
      have J:w0.cell? ⟨O,m,none⟩=some (.slice y.a y.l.length y.c):=(z.cell (aA ko)).trans ko;unfold World.cell? at J ⊢;rw[E]at J;rw[K];exact J
     have hkf:=iQ K
     have yf:Hid (Z.l.length<=k+1):=by
      have h3:=KA r Y;have:=I.oQ;rw[Hid];omega
     rw[X]at Y
     have ye:Hid (DV w.heap.size (.slice (some ⟨O,0,none⟩) (m+1) zo) (F.dropLast++[F.getLastD []++[⟨P,Q⟩]]) (w'.setCell ⟨O,m,none⟩ (.slice Z.a Z.l.length Z.c)) H Z B):=by
      rw[X,Y]at zj;exact zj
     have zg:Hid (aF w (w'.setCell ⟨O,m,none⟩ (.slice Z.a Z.l.length Z.c))):=by
      have zq:w.heap.size<=O:=fB T.oQ.out rfl;have J:=aC hN z;have h2:aF w w':=J.grown C J.size (λq hq=>by have:=fB HY.oQ.yo hq;have:=HY.oQ.lo;omega);exact h2.setCell zq _
     simp only[lds,List.drop_zero,aE,Act.put];rw[zp,Y];clear hp f z r C zj zc E K HY X zp;generalize R=R;gi_wp2_with fail
     go_wp2
     go_roundw
     case rel=>exact⟨k+1,_,H,Z,B,by omega,by go_num,zh,ye.oQ,⟨by have:=I.oQ;have:=HM.oQ;omega,yf.oQ⟩,zg.oQ⟩
     case measure=>simp[intOf];omega
  ·have zu:¬(k:Int)<(l.length:Int):=by omega
   have HZ:Hid (fI l=some F):=by rw[Hid];have:=HC.oQ;rw[ltl (by omega)]at this;exact this
   clear HC;go_wp2
   go_ret;exact⟨.inl ⟨F,HZ.oQ,_,rfl,T.oQ.doneK⟩,hN⟩
theorem vO {w w':World}{base e sz:Nat}{v:Value}{m:Nat}{xs:List Value}(h:w.ownsRow base e sz v m xs)(j:∀k,v.ownBlock=some k->w'.heap[k]?=w.heap[k]?):w'.ownsRow base e sz v m xs:=by
 obtain⟨c,h|⟨g,a,b,rfl,d,f,i⟩⟩:=h;·exact⟨c,.inl h⟩
 ·exact⟨c,.inr ⟨g,a,b,rfl,d,(j g rfl).trans f,i⟩⟩
structure kT (F:Nat->Prop)(S:Nat)(w:World)(s:St)(b:Bk)(v:Value):Prop where
 o:w.heap[S]?=some (.cells #[.int .i64 b.now,.slice b.fa b.fl.length b.fc,.slice b.ha b.hl.length b.hc,v] 38)
 h:w.ownsRow 8 56 6 v s.t.length (fA s.t)
 b:dZ (λk=>k=S∨v.ownBlock=some k∨¬F k) w s.b b
 fS:F S
 fh:∀k,v.ownBlock=some k->F k
 fl:∀k,F k->8<=k/\k<w.heap.size
 e:yL w
theorem kT.zL {F:Nat->Prop}{S:Nat}{w w':World}{s:St}{b:Bk}{v:Value}(h:kT F S w s b v)(a:aF w w'):kT F S w' s b v:=
 ⟨bJ h.o a,eO h.h a,h.b.zL a,h.fS,h.fh,λk c=>⟨(h.fl k c).1,Nat.lt_of_lt_of_le (h.fl k c).2 a.size⟩,h.e.zL a⟩
theorem dZ.mono {S S':Nat->Prop}{w:World}{s b:Bk}(h:dZ S w s b)(d:∀k,S' k->S k):dZ S' w s b:=⟨h.c,λw' a=>h.i w' (a.wide d),h.f1,h.f2⟩
theorem kT.out {F:Nat->Prop}{S:Nat}{w w':World}{s:St}{b:Bk}{v:Value}(h:kT F S w s b v)(c:aT (λk=>¬F k) w w')(d:yL w'):kT F S w' s b v:=
 ⟨bE h.o c (λe=>e h.fS),vO h.h (λk a=>c.block k (h.fl k (h.fh k a)).2 (λe=>e (h.fh k a))),h.b.but (c.wide (λ_ a=>.inr (.inr a))),h.fS,h.fh,λk a=>⟨(h.fl k a).1,Nat.lt_of_lt_of_le (h.fl k a).2 c.size⟩,d⟩
theorem kT.c {F:Nat->Prop}{S:Nat}{w:World}{s:St}{b:Bk}{v:Value}(h:kT F S w s b v):w.cell? ⟨S,0,none⟩=some (.int .i64 b.now)/\w.cell? ⟨S,1,none⟩=some (.slice b.fa b.fl.length b.fc)/\w.cell? ⟨S,2,none⟩=some (.slice b.ha b.hl.length b.hc)/\w.cell? ⟨S,3,none⟩=some v:=⟨aJ h.o rfl,aJ h.o rfl,aJ h.o rfl,aJ h.o rfl⟩
theorem kT.fz {F:Nat->Prop}{S:Nat}{w:World}{s:St}{b:Bk}{v:Value}(h:kT F S w s b v):∀i,w.frozen? ⟨S,i,none⟩=false:=λi=>by simp[World.frozen?,h.o]
theorem kT.hv {F:Nat->Prop}{S:Nat}{w:World}{s:St}{b:Bk}{v:Value}(h:kT F S w s b v):∃ta a,v=.slice ta s.t.length a/\jJ w ta s.t:=by
 obtain⟨ta,a,e,hx⟩:=(aP.of_owns h.h).slice;exact⟨ta,a,e,hx⟩
theorem kT.ne {F:Nat->Prop}{S:Nat}{w:World}{s:St}{b:Bk}{v:Value}(h:kT F S w s b v):v.ownBlock≠some S:=λe=>by
 obtain⟨_,⟨a,_⟩|⟨g,cap,cur,a,_,c,_⟩⟩:=h.h;·rw[a]at e;simp[Value.ownBlock]at e
 ·rw[a]at e;simp[Value.ownBlock]at e;rw[e,h.o]at c;simp at c
theorem kT.neS {F:Nat->Prop}{S:Nat}{w:World}{s:St}{b:Bk}{v:Value}{c o:Nat}{x:ByteArray}(h:kT F S w s b v)(a:w.cell? ⟨c,o,none⟩=some (.string x)):c≠S:=λe=>by
 subst e;obtain⟨ta,tc,rfl,_⟩:=h.hv;simp only[World.cell?,h.o]at a;match o,a with
 |0,a=>simp at a
 |1,a=>simp at a
 |2,a=>simp at a
 |3,a=>simp at a
 |n+4,a=>simp at a
theorem kT.nil {F:Nat->Prop}{S:Nat}{w:World}{s:St}{b:Bk}{v:Value}(h:kT F S w s b v):kT F S (w.setCell ⟨S,3,none⟩ (.slice none 0 0)) ⟨s.b,[]⟩ b (.slice none 0 0):=by
 have c:aT (λk=>k=S) w (w.setCell ⟨S,3,none⟩ (.slice none 0 0)):=(aT.refl (λk=>k=S) w).set (g:=S) rfl _ _;have d:aT (λk=>k=S∨v.ownBlock=some k∨¬F k) w (w.setCell ⟨S,3,none⟩ (.slice none 0 0)):=c.wide (λ_ e=>.inl e);refine⟨aO h.o 3 _,⟨rfl,.inl ⟨rfl,rfl⟩⟩,(h.b.but d).mono (λk a=>?_),h.fS,λk a=>by simp[Value.ownBlock]at a,λk a=>⟨(h.fl k a).1,Nat.lt_of_lt_of_le (h.fl k a).2 c.size⟩,h.e.but c (λk e=>by rw[e];exact(h.fl S h.fS).1)⟩;rcases a with a|a|a;·exact .inl a
 ·simp[Value.ownBlock]at a
 ·exact .inr (.inr a)
def ZF (F:Nat->Prop)(S:Nat)(w:World)(r:St×ByteArray)(e:Ending)(w':World):Prop:=(∃F' b' v',kT F' S w' r.1 b' v'/\∀k,F' k->F k∨w.heap.size<=k)/\e=.returned (.string r.2)/\aT F w w'
def UW (F:Nat->Prop)(S:Nat)(w:World)(s:St)(r:St×ByteArray)(e:Ending)(w':World):Prop:=(r=(s,cX)/\e=S8/\aF w w')∨ZF F S w r e w'
theorem kT.put {F:Nat->Prop}{S:Nat}{w:World}{s:St}{b:Bk}{v:Value}(h:kT F S w s b v){z:Nat}(j:S<z)(q:∀k,v.ownBlock=some k->k<z){r b':Bk}(m:dZ (λk=>k<z) w r b'):kT (λk=>F k∨(z<=k/\k<w.heap.size)) S (f8 w S b') ⟨r,s.t⟩ b' v:=by
 have d:=dC w S b';have l:(f8 w S b').heap.size=w.heap.size:=by simp[f8,World.setCell]
 have p:∀k,k=S∨v.ownBlock=some k∨¬(F k∨(z<=k/\k<w.heap.size))->k<w.heap.size->k<z:=λk a A=>by
  rcases a with rfl|a|a;·exact j
  ·exact q k a
  ·rcases Nat.lt_or_ge k z with g|g;·exact g
   ·exact absurd (.inr ⟨g,A⟩) a
 refine⟨?_,i6 h.h (λk cs _ n=>d.block k (gT n) (λe=>?_)),⟨m.c,λB f=>m.i B ?_,m.f1,m.f2⟩,.inl h.fS,λk a=>.inl (h.fh k a),λk a=>?_,h.e.but d (λk e=>by rw[e];exact(h.fl S h.fS).1)⟩;·exact aO (aO (aO h.o 0 _) 1 _) 2 _
 ·have u:k=S:=e;subst u;rw[h.o]at n;simp at n
 ·have x:aT (λk=>k<z) w (f8 w S b'):=d.wide (λk e=>by rw[e];exact j);refine x.trans ⟨f.os,f.tape,f.output,f.size,λk a y=>f.block k a (λe=>y (p k e (by rw[←l];exact a)))⟩
 ·rw[l];rcases a with a|a;·exact h.fl k a
  ·exact⟨by have:=(h.fl S h.fS).1;omega,a.2⟩
theorem kT.fit {F:Nat->Prop}{S:Nat}{w:World}{s:St}{b:Bk}{v:Value}(h:kT F S w s b v):S<w.heap.size/\∀k,v.ownBlock=some k->k<w.heap.size:=⟨gT h.o,λk a=>(h.fl k (h.fh k a)).2⟩
theorem sS (F:Nat->Prop)(S:Nat)(w:World)(s:St)(b:Bk)(v:Value)(x:kT F S w s b v)(z:Nat)(m:S<z)(o:∀k,v.ownBlock=some k->k<z)(q b':Bk)(n:dZ (λk=>k<z) w q b')(c:Int)(r:0<=c)(u:c<=2000000):
 aY 63 #[.pointer (some ⟨S,0,none⟩),b'.val,.int .i64 c] w λe w'=>((∃p b' A,kT p S w' ⟨q,s.t⟩ b' A/\∀k,p k->F k∨z<=k)/\e=.returned (.string (iK c)))/\aT (λk=>k=S) w w':=by
 have d:aF w (w.alloc b'.obj):=aB (br _ _) _;have a:=(x.zL d);have HP:=aG (a.put m o (n.zL d));have i:Hid (aT (λk=>k=S) w (f8 (w.alloc b'.obj) S b')):=(aT.below d).trans (dC _ S b');obtain⟨W0,g⟩:=cK (w.alloc b'.obj);rw[g]at a HP i;obtain⟨c0,c1,c2,c3⟩:=a.c;have cf:=a.fz;obtain⟨k0,k1,k2⟩:=aM (by rw[←g];exact wnq w _:W0.heap[w.heap.size]?=some b'.obj);clear d a;go_enter Tryz.func63,Tryz.ntmps63;go_wp2_with fail;refine(uG c _ HP.oQ.e r u).mono ?_;rintro e w2 ⟨rfl,f⟩;have l:Hid _:=HP.oQ.zL f;have j:Hid _:=i.oQ.trans (aT.below f);clear f HP i;go_wp2;go_ret;exact⟨⟨⟨_,_,_,l.oQ,λk y=>y.elim .inl (λh=>.inr h.1)⟩,rfl⟩,j.oQ⟩
def WK (S:Nat)(b:Bk)(vw:Value)(bl off:Nat)(nm:ByteArray)(tk:Bool)(s':Bk)(c:Int)(Z:Nat)(j:Nat)(v:Value)(w:World):Prop:=
 match j with
 |0|1|2|3=>v=.pointer (some ⟨S,0,none⟩)
 |4=>v=b.val
 |5=>v=vw
 |6=>v=.pointer (some ⟨bl,off,none⟩)
 |7=>v=.string nm
 |8=>v=.bool tk
 |9=>∃b':Bk,v=.tuple #[b'.val,.int .i64 c]/\dZ (λk=>k<Z) w s' b'
 |10=>∃b':Bk,v=b'.val/\dZ (λk=>k<Z) w s' b'
 |11=>v=.int .i64 c
 |_=>True
theorem WK.zL {S:Nat}{b:Bk}{h:Value}{e a:Nat}{nm:ByteArray}{g:Bool}{f:Bk}{c:Int}{Z:Nat}(j:Nat)(v:Value)(w w':World)(d:WK S b h e a nm g f c Z j v w)(l:aF w w'):WK S b h e a nm g f c Z j v w':=by
 unfold WK at*;split at d
 all_goals first
  |exact d
  |(obtain⟨b',i,k⟩:=d;exact⟨b',i,k.zL l⟩)
theorem EE (F:Nat->Prop)(S:Nat)(w:World)(s:St)(b:Bk)(v:Value)(n:kT F S w s b v)(kk:Nat)(V:iP kk s)(a:List ByteArray)(X:Option Addr)(y:Nat)(hX:Xs 1 dS w X a)(took:Bool):
 aY 65 #[.pointer (some ⟨S,0,none⟩),.slice X a.length y,.bool took] w λe w'=>UW F S w s (nA took s a) e w':=by
 by_cases L:a.length=1
 ·obtain⟨nm,rfl⟩:∃nm,a=[nm]:=List.length_eq_one_iff.1 L;rcases hX with h|⟨R,p,rfl,H⟩;·cases h
  have Y:w.cell? ⟨R,p,none⟩=some (.string nm):=by have:=H 0 (by simp) 0 _ rfl;simpa using this
  clear L H;obtain⟨E,G⟩:=oC s.b nm;obtain⟨c,j⟩:=cK (cJ s.b nm);have K:Hid (nA took s [nm]=(⟨dM s.b s.b.now (dK s.b nm took),s.t⟩,iK c)):=by rw[←j];rfl
  rw[j]at E G;have O:=aG j;have x:Hid (aT F w w):=aT.refl _ _;clear j;go_enter Tryz.func65,Tryz.ntmps65;go_wp2_with (go_at_call 36;refine(gD _).mono ?_;rintro e w' ⟨⟨u,rfl⟩,I⟩;rw[I];clear I);refine pG 12 [some 11,some 12,some 13,some 14,some 15,some 16,some 17,some 18,some 19,some 20,some 21,some 22] (WK S b (.slice (some ⟨R,p,none⟩) 1 y) R p nm took (dM s.b s.b.now (dK s.b nm took)) c w.heap.size) WK.zL ?step ?fin
  case step=>
   intro ii o J w' U g i f;obtain⟨z0z,z1z,z2z,z3z⟩:=(n.zL i).c;have z4z:=(i.cell (aA Y)).trans Y;match ii,U with
   |2,_|3,_|4,_|6,_|7,_=>
    simp at g;subst g;simp[Region.binds,WK]at f;simp only[aE,Act.put,f];gi_wp2;exact⟨_,by simp[aH,f],rfl,br _ _⟩
   |0,_|1,_|5,_|8,_=>
    simp at g;subst g;simp only[aE,Act.put];gi_wp2;exact⟨_,by simp[aH],rfl,br _ _⟩
   |9,_=>
    simp at g;subst g;simp[Region.binds,WK]at f;simp only[aE,Act.put,f];gi_wp2_with fail;refine⟨trivial,rfl,?_⟩;refine(cw.2 (RM (S':=λk=>k<w.heap.size) (n.e.zL i).l (n.zL i).b V.b nm took (λk e=>Nat.lt_of_lt_of_le e i.size))).mono ?_;rintro e w5 ⟨⟨b',rfl,d⟩,T⟩;have m:=aG d;clear d;rw[O.oQ];gi_wp2;exact⟨_,by simp[aH,f],⟨b',rfl,m.oQ⟩,T⟩
   |10,_=>
    simp at g;subst g;obtain⟨b',z,d⟩:=Zq f 9;have m:=aG d;clear f d;simp only[aE,Act.put,z];gi_wp2;exact⟨_,by simp[aH,z],⟨b',rfl,m.oQ⟩,br _ _⟩
   |11,_=>
    simp at g;subst g;obtain⟨b',z,d⟩:=Zq f 9;have m:=aG d;clear f d;simp only[aE,Act.put,z];gi_wp2;exact⟨_,by simp[aH,z],rfl,br _ _⟩
   |q+12,h=>exact absurd h (by omega)
  case fin=>
   intro J w8 i M;have Z:J 0=.pointer (some ⟨S,0,none⟩):=M 0 (by decide);obtain⟨b',eb,d⟩:=M 10 (by decide);have ec:J 11=.int .i64 c:=M 11 (by decide);have B:=n.zL i;have r:=aG (x.oQ.trans (aT.below i));have m:=aG d;clear M i d;simp only[lds,List.drop_zero,aE,Act.put];rw[Z,eb,ec];clear Z eb ec;generalize J=J;gi_wp2_with fail;refine⟨trivial,rfl,?_⟩;refine(cw.2 (sS F S w8 _ b _ B w.heap.size n.fit.1 n.fit.2 _ b' m.oQ c E G)).mono ?_;rintro e w9 ⟨⟨⟨W,b9,v9,C,A⟩,rfl⟩,D⟩;have Q:=aG C;have P:Hid (∀k,W k->F k∨w.heap.size<=k):=λk hk=>(A k hk).elim .inl (λh=>.inr (Nat.le_trans x.oQ.size h));have N:Hid (aT F w w9):=r.oQ.trans (D.wide (λk e=>by rw[e];exact n.fS));clear C D r m B A;gi_wp2_with fail;go_wp2;go_ret;exact .inr ⟨⟨W,b9,v9,by rw[K.oQ];exact Q.oQ,P.oQ⟩,by rw[K.oQ];rfl,N.oQ⟩
 ·have K:Hid (nA took s a=(s,cX)):=wJ L;have hl':((a.length:Int)==1)=false:=by rw[beq_eq_false_iff_ne];omega
  clear L;go_enter Tryz.func65,Tryz.ntmps65;go_wp2_with (go_at_call 36;refine(jD _).mono ?_;rintro e w' ⟨rfl,rfl⟩);exact⟨rfl,.inl ⟨K.oQ,rfl,br _ _⟩⟩
theorem PJ (F:Nat->Prop)(S:Nat)(w:World)(s:St)(b:Bk)(v:Value)(k:kT F S w s b v)(i:Nat)(h:iP i s)(a:List ByteArray)(g:Option Addr)(c:Nat)(l:Xs 1 dS w g a):
 aY 29 #[.pointer (some ⟨S,0,none⟩),.slice g a.length c] w λe w'=>UW F S w s (nA true s a) e w':=by
 go_enter Tryz.func29,Tryz.ntmps29;go_wp2_with fail;refine(EE F S w s b v k i h a g c l true).mono ?_;rintro e w' (⟨d,rfl,f⟩|⟨d,rfl,f⟩)
 ·have H:=aG d;clear d;go_wp2;exact⟨rfl,.inl ⟨H.oQ,rfl,f⟩⟩
 ·have H:=aG d;have j:=aG f;clear d f;go_wp2;go_ret;exact .inr ⟨H.oQ,rfl,j.oQ⟩
theorem FM (F:Nat->Prop)(S:Nat)(w:World)(s:St)(b:Bk)(v:Value)(k:kT F S w s b v)(i:Nat)(h:iP i s)(a:List ByteArray)(g:Option Addr)(c:Nat)(l:Xs 1 dS w g a):
 aY 30 #[.pointer (some ⟨S,0,none⟩),.slice g a.length c] w λe w'=>UW F S w s (nA false s a) e w':=by
 go_enter Tryz.func30,Tryz.ntmps30;go_wp2_with fail;refine(EE F S w s b v k i h a g c l false).mono ?_;rintro e w' (⟨d,rfl,f⟩|⟨d,rfl,f⟩)
 ·have H:=aG d;clear d;go_wp2;exact⟨rfl,.inl ⟨H.oQ,rfl,f⟩⟩
 ·have H:=aG d;have j:=aG f;clear d f;go_wp2;go_ret;exact .inr ⟨H.oQ,rfl,j.oQ⟩
def WB (S:Nat)(b:Bk)(vw:Value)(bl off:Nat)(nm:ByteArray)(tv:Value)(s':Bk)(c:Int)(Z:Nat)(j:Nat)(v:Value)(w:World):Prop:=
 match j with
 |0|1|2|3=>v=.pointer (some ⟨S,0,none⟩)
 |4=>v=b.val
 |5=>v=vw
 |6=>v=.pointer (some ⟨bl,off,none⟩)
 |7=>v=.string nm
 |8=>v=tv
 |9=>∃b':Bk,v=.tuple #[b'.val,.int .i64 c]/\dZ (λk=>k<Z) w s' b'
 |10=>∃b':Bk,v=b'.val/\dZ (λk=>k<Z) w s' b'
 |11=>v=.int .i64 c
 |_=>True
theorem WB.zL {S:Nat}{b:Bk}{h:Value}{e a:Nat}{nm:ByteArray}{g:Value}{f:Bk}{c:Int}{Z:Nat}(j:Nat)(v:Value)(w w':World)(d:WB S b h e a nm g f c Z j v w)(l:aF w w'):WB S b h e a nm g f c Z j v w':=by
 unfold WB at*;split at d
 all_goals first
  |exact d
  |(obtain⟨b',i,k⟩:=d;exact⟨b',i,k.zL l⟩)
theorem MK (F:Nat->Prop)(S:Nat)(w:World)(s:St)(b:Bk)(v:Value)(d:kT F S w s b v)(kk:Nat)(Q:iP kk s)(a:List ByteArray)(ao:Option Addr)(G:Nat)(hX:Xs 1 dS w ao a)(hkk:kk<=1000):
 aY 28 #[.pointer (some ⟨S,0,none⟩),.slice ao a.length G] w λe w'=>UW F S w s (pF s a) e w':=by
 by_cases X:a.length=1
 ·obtain⟨nm,rfl⟩:∃nm,a=[nm]:=List.length_eq_one_iff.1 X;rcases hX with h|⟨V,x,rfl,P⟩;·cases h
  have C:w.cell? ⟨V,x,none⟩=some (.string nm):=by have:=P 0 (by simp) 0 _ rfl;simpa using this
  clear X P;obtain⟨ta,tc,rfl,zd⟩:=d.hv;obtain⟨q0,q1,q2,q3⟩:=d.c;have yf:=d.fz;have n:aT (λk=>k=S) w (w.setCell ⟨S,3,none⟩ (.slice none 0 0)):=(aT.refl (λk=>k=S) w).set (g:=S) rfl _ _;have E:Hid (jJ (w.setCell ⟨S,3,none⟩ (.slice none 0 0)) ta s.t):=(aP.of_owns (vO d.h (λk W=>n.block k (d.fit.2 k W) (λe=>d.ne (by rw[W];exact congrArg some e))))).xs;have B:=d.nil;have A:=n.cell (p:=⟨V,x,none⟩) (d.neS C) C;clear zd;obtain⟨N,O⟩:=BT s.b nm s.t;obtain⟨c,r⟩:=cK (dX s.b nm s.t);have U:Hid (pF s [nm]=(⟨dM s.b s.b.now (fX s.b nm s.t),[]⟩,iK c)):=by rw[←r];rfl
  rw[r]at N O;have za:=aG r;have z:Hid (aT F w (w.setCell ⟨S,3,none⟩ (.slice none 0 0))):=n.wide (λk e=>by rw[e];exact d.fS);clear r;go_enter Tryz.func28,Tryz.ntmps28;go_wp2_with (go_at_call 36;refine(gD _).mono ?_;rintro e w' ⟨⟨u,rfl⟩,R⟩;rw[R];clear R);go_upto_region 4 with fail;obtain⟨W1,L⟩:=cK (w.setCell ⟨S,3,none⟩ (.slice none 0 0));rw[L]at E B A z ⊢;clear L q0 q1 q2 q3 yf n d C;have d:=B;have C:=A;clear A B;refine pG 12 [some 17,some 18,some 19,some 20,some 21,some 22,some 23,some 24,some 25,some 26,some 27,some 28] (WB S b (.slice (some ⟨V,x,none⟩) 1 G) V x nm (.slice ta s.t.length tc) (dM s.b s.b.now (fX s.b nm s.t)) c W1.heap.size) WB.zL ?step ?fin
  case step=>
   intro ii o T w' zf m i j;obtain⟨z0z,z1z,z2z,z3z⟩:=(d.zL i).c;have z4z:=(i.cell (aA C)).trans C;match ii,zf with
   |2,_|3,_|4,_|6,_|7,_=>
    simp at m;subst m;simp[Region.binds,WB]at j;simp only[aE,Act.put,j];gi_wp2;exact⟨_,by simp[aH,j],rfl,br _ _⟩
   |0,_|1,_|5,_|8,_=>
    simp at m;subst m;simp only[aE,Act.put];gi_wp2;exact⟨_,by simp[aH],rfl,br _ _⟩
   |9,_=>
    simp at m;subst m;simp[Region.binds,WB]at j;simp only[aE,Act.put,j];gi_wp2_with fail;refine⟨trivial,rfl,?_⟩;refine(cw.2 (M6 (S':=λk=>k<W1.heap.size) (d.e.zL i).l (d.zL i).b Q.b nm s.t ta tc (E.oQ.zL i) (by have:=Q.t;omega) (λk e=>Nat.lt_of_lt_of_le e i.size))).mono ?_;rintro e w5 ⟨⟨b',rfl,f⟩,ze⟩;have y:=aG f;clear f;rw[za.oQ];gi_wp2;exact⟨_,by simp[aH,j],⟨b',rfl,y.oQ⟩,ze⟩
   |10,_=>
    simp at m;subst m;obtain⟨b',H,f⟩:=Zq j 9;have y:=aG f;clear j f;simp only[aE,Act.put,H];gi_wp2;exact⟨_,by simp[aH,H],⟨b',rfl,y.oQ⟩,br _ _⟩
   |11,_=>
    simp at m;subst m;obtain⟨b',H,f⟩:=Zq j 9;have y:=aG f;clear j f;simp only[aE,Act.put,H];gi_wp2;exact⟨_,by simp[aH,H],rfl,br _ _⟩
   |q+12,h=>exact absurd h (by omega)
  case fin=>
   intro T w8 i Y;have e0:T 0=.pointer (some ⟨S,0,none⟩):=Y 0 (by decide);obtain⟨b',eb,f⟩:=Y 10 (by decide);have ec:T 11=.int .i64 c:=Y 11 (by decide);have J:=d.zL i;have D:=aG (z.oQ.trans (aT.below i));have y:=aG f;clear Y i f;simp only[lds,List.drop_zero,aE,Act.put];rw[e0,eb,ec];clear e0 eb ec;generalize T=T;gi_wp2_with fail;refine⟨trivial,rfl,?_⟩;refine(cw.2 (sS F S w8 _ b _ J W1.heap.size d.fit.1 d.fit.2 _ b' y.oQ c N O)).mono ?_;rintro e w9 ⟨⟨⟨F9,b9,v9,K,I⟩,rfl⟩,M⟩;have zc:=aG K;have zb:Hid (∀k,F9 k->F k∨w.heap.size<=k):=λk W=>(I k W).elim .inl (λh=>.inr (Nat.le_trans z.oQ.size h));have Z:Hid (aT F w w9):=D.oQ.trans (M.wide (λk e=>by rw[e];exact d.fS));clear K M D y J I;gi_wp2_with fail;go_wp2;go_ret;exact .inr ⟨⟨F9,b9,v9,by rw[U.oQ];exact zc.oQ,zb.oQ⟩,by rw[U.oQ];rfl,Z.oQ⟩
 ·have U:Hid (pF s a=(s,cX)):=zC X;have hl':((a.length:Int)==1)=false:=by rw[beq_eq_false_iff_ne];omega
  clear X;go_enter Tryz.func28,Tryz.ntmps28;go_wp2_with (go_at_call 36;refine(jD _).mono ?_;rintro e w' ⟨rfl,rfl⟩);exact⟨rfl,.inl ⟨U.oQ,rfl,br _ _⟩⟩
theorem L4 {s:St}{a:List ByteArray}(h:¬a.length=1):lT s a=(s,cX):=DF (λg=>h g.1)
def V3 (S:Nat)(b:Bk)(vw:Value)(bl off:Nat)(nm:ByteArray)(x:Int)(s':Bk)(c:Int)(Z:Nat)(j:Nat)(v:Value)(w:World):Prop:=
 match j with
 |0|1|2|3=>v=.pointer (some ⟨S,0,none⟩)
 |4=>v=b.val
 |5=>v=vw
 |6=>v=.pointer (some ⟨bl,off,none⟩)
 |7=>v=.string nm
 |8=>v=.int .i64 x/\0<=x
 |9=>∃b':Bk,v=.tuple #[b'.val,.int .i64 c]/\dZ (λk=>k<Z) w s' b'
 |10=>∃b':Bk,v=b'.val/\dZ (λk=>k<Z) w s' b'
 |11=>v=.int .i64 c
 |_=>True
theorem V3.zL {S:Nat}{b:Bk}{g:Value}{e a:Nat}{nm:ByteArray}{x:Int}{f:Bk}{c:Int}{Z:Nat}(j:Nat)(v:Value)(w w':World)(d:V3 S b g e a nm x f c Z j v w)(k:aF w w'):V3 S b g e a nm x f c Z j v w':=by
 unfold V3 at*;split at d
 all_goals first
  |exact d
  |(obtain⟨b',h,i⟩:=d;exact⟨b',h,i.zL k⟩)
theorem QQ (F:Nat->Prop)(S:Nat)(w:World)(s:St)(b:Bk)(v:Value)(r:kT F S w s b v)(kk:Nat)(za:iP kk s)(a:List ByteArray)(ao:Option Addr)(D:Nat)(hX:Xs 1 dS w ao a):
 aY 31 #[.pointer (some ⟨S,0,none⟩),.slice ao a.length D] w λe w'=>UW F S w s (lT s a) e w':=by
 by_cases Q:a.length=1
 ·obtain⟨nm,rfl⟩:∃nm,a=[nm]:=List.length_eq_one_iff.1 Q;rcases hX with h|⟨X,y,rfl,M⟩;·cases h
  have c1:w.cell? ⟨X,y,none⟩=some (.string nm):=by have:=M 0 (by simp) 0 _ rfl;simpa using this
  clear Q M;obtain⟨x,hx⟩:=cK (aV nm);have C:=aG hx;have A:Hid (x=-1->lT s [nm]=(s,cX)):=λh=>by rw[lT,hx,if_neg (by omega)]
  have V:Hid (0<=x->lT s [nm]=(⟨dM s.b (fF s.b x) (eR s.b x),s.t⟩,iK (cV s.b x))):=λh=>by rw[lT,hx,if_pos h]
  clear hx;obtain⟨K,L⟩:=AF s.b x;obtain⟨c,j⟩:=cK (cV s.b x);have n:Hid (0<=x->lT s [nm]=(⟨dM s.b (fF s.b x) (eR s.b x),s.t⟩,iK c)):=by rw[←j];exact V.oQ
  rw[j]at K L;have T:=aG j;have B:Hid (aT F w w):=aT.refl _ _;clear j;go_enter Tryz.func31,Tryz.ntmps31;go_wp2_with (go_at_call 36;refine(gD _).mono ?_;rintro e w' ⟨⟨u,rfl⟩,O⟩;rw[O];clear O);refine pG 12 [some 9,some 10,some 11,some 12,some 13,some 14,some 15,some 16,some 17,some 18,some 19,some 20] (V3 S b (.slice (some ⟨X,y,none⟩) 1 D) X y nm x (dM s.b (fF s.b x) (eR s.b x)) c w.heap.size) V3.zL ?step ?fin
  case step=>
   intro ii o P w' Z f i d;obtain⟨z0z,z1z,z2z,z3z⟩:=(r.zL i).c;have z4z:=(i.cell (aA c1)).trans c1;match ii,Z with
   |2,_|3,_|4,_|6,_|7,_=>
    simp at f;subst f;simp[Region.binds,V3]at d;simp only[aE,Act.put,d];gi_wp2;exact⟨_,by simp[aH,d],rfl,br _ _⟩
   |0,_|1,_|5,_=>
    simp at f;subst f;simp only[aE,Act.put];gi_wp2;exact⟨_,by simp[aH],rfl,br _ _⟩
   |8,_=>
    simp at f;subst f;simp[Region.binds,V3]at d;simp only[aE,Act.put,d];gi_wp2_with fail;refine⟨trivial,rfl,?_⟩;refine(cw.2 (oR nm w')).mono ?_;rintro e w5 ⟨⟨h0,rfl⟩|⟨h1,rfl⟩,m⟩
    ·rw[C.oQ]at h0 ⊢;rw[m];clear m;gi_wp2;exact⟨_,by simp[aH,d],⟨rfl,h0⟩,br _ _⟩
    ·have HZ:Hid (lT s [nm]=(s,cX)):=A.oQ (by rw[←C.oQ];exact h1);rw[m];clear m h1;gi_wp2;exact⟨rfl,.inl ⟨HZ.oQ,rfl,i⟩⟩
   |9,_=>
    simp at f;subst f;simp[Region.binds,V3]at d;simp only[aE,Act.put,d];gi_wp2_with fail;refine⟨trivial,rfl,?_⟩;refine(cw.2 (PL (S':=λk=>k<w.heap.size) (r.e.zL i).l (r.zL i).b za.b x (λk e=>Nat.lt_of_lt_of_le e i.size))).mono ?_;rintro e w5 ⟨⟨b',rfl,g⟩,Y⟩;have p:=aG g;clear g;rw[T.oQ];gi_wp2;exact⟨_,by simp[aH,d],⟨b',rfl,p.oQ⟩,Y⟩
   |10,_=>
    simp at f;subst f;obtain⟨b',E,g⟩:=Zq d 9;have p:=aG g;clear d g;simp only[aE,Act.put,E];gi_wp2;exact⟨_,by simp[aH,E],⟨b',rfl,p.oQ⟩,br _ _⟩
   |11,_=>
    simp at f;subst f;obtain⟨b',E,g⟩:=Zq d 9;have p:=aG g;clear d g;simp only[aE,Act.put,E];gi_wp2;exact⟨_,by simp[aH,E],rfl,br _ _⟩
   |q+12,h=>exact absurd h (by omega)
  case fin=>
   intro P w8 i N;have n:=n.oQ (N 8 (by decide)).2;have n:=aG n;have e0:P 0=.pointer (some ⟨S,0,none⟩):=N 0 (by decide);obtain⟨b',eb,g⟩:=N 10 (by decide);have ec:P 11=.int .i64 c:=N 11 (by decide);have H:=r.zL i;have z:=aG (B.oQ.trans (aT.below i));have p:=aG g;clear N i g;simp only[lds,List.drop_zero,aE,Act.put];rw[e0,eb,ec];clear e0 eb ec;generalize P=P;gi_wp2_with fail;refine⟨trivial,rfl,?_⟩;refine(cw.2 (sS F S w8 _ b _ H w.heap.size r.fit.1 r.fit.2 _ b' p.oQ c K L)).mono ?_;rintro e w9 ⟨⟨⟨F9,b9,v9,I,G⟩,rfl⟩,J⟩;have W:=aG I;have U:Hid (∀k,F9 k->F k∨w.heap.size<=k):=λk hk=>(G k hk).elim .inl (λh=>.inr (Nat.le_trans B.oQ.size h));have R:Hid (aT F w w9):=z.oQ.trans (J.wide (λk e=>by rw[e];exact r.fS));clear I J z p H G;gi_wp2_with fail;go_wp2;go_ret;exact .inr ⟨⟨F9,b9,v9,by rw[n.oQ];exact W.oQ,U.oQ⟩,by rw[n.oQ];rfl,R.oQ⟩
 ·have n:Hid (lT s a=(s,cX)):=L4 Q;have hl':((a.length:Int)==1)=false:=by rw[beq_eq_false_iff_ne];omega
  clear Q;go_enter Tryz.func31,Tryz.ntmps31;go_wp2_with (go_at_call 36;refine(jD _).mono ?_;rintro e w' ⟨rfl,rfl⟩);exact⟨rfl,.inl ⟨n.oQ,rfl,br _ _⟩⟩
end Go.Proofs.YtcdbcliaepcpfaaGreatDoor
