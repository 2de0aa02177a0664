import Derived.Lib.SplitLaws
import Derived.Lib.Split
import Derived.Lib.IndexBytes
import Derived.Lib.IndexLaws
import Derived.Test.YtoolgmmljacfmaaGreatDoorYb
import Derived.Test.YtoolgmmljacfmaaGreatDoorShelf
import Derived.Recover
set_option maxRecDepth 100000
set_option maxHeartbeats 16000000
open List renaming length → ln
open Go.Proofs.Tryz Go.RowKit
namespace Go.Proofs.YtoolgmmljacfmaaGreatDoor
open Go.BigFrame
theorem wP:∀(l:List UInt8) (c:UInt8) (i:Nat),Lib.indexByte l c=(i:Int)->l[i]?=some c/\∀j,j<i->l[j]?≠some c
 |[],_,i,h=>by simp[Lib.indexByte]at h
 |b::l,c,i,h=>by
  unfold Lib.indexByte at h;split at h
  ·rename_i a;have:i=0:=om;subst this;exact⟨by simpa using beq_iff_eq.1 a,λj g=>by omega⟩
  ·rename_i a;split at h;·omega
   ·have hge:=Lib.indexByte_ge l c;rename_i m;have hm':¬Lib.indexByte l c=-1:=λe=>m (beq_iff_eq.2 e);obtain⟨k,rfl⟩:∃k,i=k+1:=⟨i-1,om⟩;obtain⟨d,f⟩:=wP l c k om;refine⟨by simpa using d,λj g=>?_⟩;cases j with
    |zero=>simpa using λe=>a (beq_iff_eq.2 e)
    |succ j=>simpa using f j om
theorem RK (s:Ba)(a f j:Nat)(h:a+j<=s.size):(s.extract a s.size).extract f j=s.extract (a+f) (a+j):=by
 apply ByteArray.ext;rw[ByteArray.data_extract,ByteArray.data_extract,ByteArray.data_extract,Array.extract_extract];congr 1;have:s.data.size=s.size:=rfl;omega
theorem uF (c:Int)(s:Ba)(a:Nat)(ha:a<=s.size):∀(m f j:Nat),s.size-(a+j)=m->a+j<=s.size->fM c (s.extract a s.size) f j=fM c s (a+f) (a+j)
 |m,f,j,h,hj=>by
  have g:(s.extract a s.size).size=s.size-a:=by rw[ByteArray.size_extract];omega
  by_cases e:a+j<s.size
  ·have b:j<(s.extract a s.size).size:=om
   have i:(s.extract a s.size)[j]=s[a+j]:=by
    rw[ByteArray.getElem_extract]
   by_cases d:(s[a+j].toNat:Int)=c
   ·rw[lZ e d,lZ b (by rw[i];exact d),RK s a f j hj];have:=uF c s a ha (s.size-(a+(j+1))) (j+1) (j+1) rfl om;rw[this,Nat.add_assoc]
   ·rw[kQ e d,kQ b (by rw[i];exact d)];have:=uF c s a ha (s.size-(a+(j+1))) f (j+1) rfl om;rw[this,Nat.add_assoc]
  ·have b:¬j<(s.extract a s.size).size:=om;rw[lP e,lP b,g,RK s a f (s.size-a) om,show a+(s.size-a)=s.size from by omega]
 termination_by m => m
theorem xM (c:Int)(s:Ba)(f i:Nat)(a:i<=s.size)(h:∀j (hj:j<s.size),j<i->¬(s[j].toNat:Int)=c):∀k,k<=i->fM c s f (i-k)=fM c s f i
 |0,_=>rfl
 |k+1,hk=>by
  rw[kQ om (h _ om om),←xM c s f i a h k om];congr 1;omega
theorem MB (s:Ba):s.extract 0 s.size=s:=by
 apply ByteArray.ext;rw[ByteArray.data_extract];exact Array.extract_size
theorem AN (c:UInt8):∀(n:Nat) (s:Ba),s.size<=n->Lib.splitB ⟨#[c]⟩ 0 (Lib.countB s ⟨#[c]⟩) s=bG (c.toNat:Int) s
 |n,s,hn=>by
  have a:∀j (d:j<s.size),s.data.toList[j]?=some s[j]:=λj d=>by rw[lge (by simpa using d)];rfl
  have b:(⟨#[c]⟩:Ba).size=1:=rfl;rcases Lib.indexB_cases s ⟨#[c]⟩with h|⟨i,h,q⟩
  ·rw[Lib.splitB_miss _ _ _ _ h];have h':Lib.indexByte s.data.toList c=-1:=by rw[←Lib.index_one];exact h
   have k:=Lib.indexByte_none h';unfold bG
   rw[show fM (c.toNat:Int) s 0 0=fM (c.toNat:Int) s 0 s.size from by
    have:=xM (c.toNat:Int) s 0 s.size (nlq _) (λj d _ e=>k j (by rw[a j d];congr 1;exact UInt8.toNat_inj.1 om)) s.size (nlq _);rwa[nss]at this,lP om,MB]
  ·have h':Lib.indexByte s.data.toList c=(i:Int):=by rw[←Lib.index_one];exact h
   obtain⟨l,o⟩:=wP _ _ _ h';rw[b]at q;have f:i<s.size:=om;rw[a i f]at l;have p:s[i]=c:=by simpa using l
   rw[Lib.countB_hit s ⟨#[c]⟩ i (show 1<=1 from nlq _) h,Nat.add_comm 1,Lib.splitB_hit _ _ _ _ i h,b,naz];have hsz:(s.extract (i+1) s.size).size=s.size-(i+1):=by rw[ByteArray.size_extract];omega
   rw[AN c (n-1) (s.extract (i+1) s.size) om];unfold bG
   have m:fM (c.toNat:Int) s 0 0=fM (c.toNat:Int) s 0 i:=by
    have:=xM (c.toNat:Int) s 0 i om (λj d g e=>o j g (by rw[a j d];congr 1;exact UInt8.toNat_inj.1 om)) i (nlq _);rwa[nss]at this
   rw[m,lZ f (by rw[p]),uF (c.toNat:Int) s (i+1) om _ 0 0 rfl om]
 termination_by _ s => s.size
structure zP (w:World):Prop where
 l:l8 w
 t:Lib.TabIs Tryz.prog w "internal/strconv.uint64pow10" .u64 Lib.pow10Tab
 m:∃m,w.cell? ⟨0,0,none⟩=some (.int .i64 m)
 s:8<=w.heap.size
theorem IL (s:Ba)(c:UInt8)(w:Wd)(d:zP w)(h:s.size<=1048576):
 aW 33 #[.string s,.string ⟨#[c]⟩] w λe w'=>(e=rt (.slice (some (Y w.heap.size 0)) (ln (bG (c.toNat:Int) s)) (ln (bG (c.toNat:Int) s)))/\Xs 1 eE w' (some (Y w.heap.size 0)) (bG (c.toNat:Int) s))/\aG w w':=by
 obtain⟨m,f⟩:=d.m;refine(Tryz.strings_Split s ⟨#[c]⟩ m w om f (show 1<=1 from nlq _)).mono ?_;rintro e w' ⟨rfl,rfl⟩;have b:=Lib.splitB_all ⟨#[c]⟩ (show 1<=1 from nlq _) 0 _ s rfl;rw[AN c s.size s (nlq _)]at b ⊢;rw[b];refine⟨⟨rfl,?_⟩,aC (br _ _) _⟩
 have g:(w.alloc (.cells ((bG (c.toNat:Int) s).map Value.string).toArray 9)).ownsRow w.heap.size 9 1 (.slice (some (ya w 0)) (ln (bG (c.toNat:Int) s)) (ln (bG (c.toNat:Int) s))) (ln (bG (c.toNat:Int) s)) ((bG (c.toNat:Int) s).map Value.string):=
  ⟨sm,.inr ⟨w.heap.size,_,_,rfl,nlq _,wnq w _,nlq _,by have:=kU (c.toNat:Int) s;unfold maxLen;omega,sm,by simp[ltl]⟩⟩
 obtain⟨a,cc,e,hx⟩:=sY g;cases e;exact hx
theorem OA (w:Wd)(k:Nat)(os:Array Obj):aG w (Go.Sort.grow (w.drewN k) os):=by
 have h:=below_drewN (br w.heap.size w) k;refine h.trans ⟨rfl,rfl,rfl,by simp[Go.Sort.grow],λi hi=>?_⟩;have a:=h.size;simp only[Go.Sort.grow];rw[Array.getElem?_append_left om]
theorem wO (n:Int)(w:Wd)(b:zP w)(h0:0<=n)(a:n<=9223372036854775807):aW 79 #[I n] w λe w'=>e=rt (.string (dH n))/\aG w w':=by
 refine(Tryz.strconv_Itoa n om a w b.t).mono ?_;rintro e w' ⟨rfl,k,os,rfl⟩;refine⟨by rw[Lib.itoa,if_neg om];rfl,?_⟩;exact OA _ _ _
variable {w w':Wd}{S:Nat → Prop}{a b:Int}
theorem zP.blocks (h:zP w)(c:w.heap.size<=w'.heap.size)(a:∀k,k<8->w'.heap[k]?=w.heap[k]?):zP w':=by
 obtain⟨l,t,⟨m,b⟩,s⟩:=h;refine⟨?_,?_,⟨m,?_⟩,om⟩
 ·unfold l8 World.cell? at l ⊢;rw[a _ dz];exact l
 ·unfold Lib.TabIs World.var? at t ⊢;rw[show prog.globalNamed "internal/strconv.uint64pow10"=some 4 from by kernel_rfl]at t ⊢;simp only[Option.bind_some]at t ⊢;rw[a 4 dz];exact t
 ·unfold World.cell? at b ⊢;rw[a _ dz];exact b
theorem zP.zL {w w':Wd}(h:zP w)(a:aG w w'):zP w':=h.blocks a.size (λk hk=>a.block k (by have:=h.s;omega))
theorem zP.but (h:zP w)(a:aU S w w')(b:∀k,S k->8<=k):zP w':=h.blocks a.size (λk hk=>a.block k (by have:=h.s;omega) (λe=>by have:=b k e;omega))
theorem wD (c:Int)(w:Wd)(d:zP w)(a:0<=c)(b:c<=2000000):aW 78 #[I c] w λe w'=>e=rt (.string (jC c))/\aG w w':=by
 have g:=bD b;go_enter func78,ntmps78;go_wp2_with fail;refine(wO c w d a om).mono ?_;rintro e w' ⟨rfl,f⟩;have hz:¬9223372036854775807<5+(dH c).size:=om;go_wp2;go_ret;exact⟨rfl,f⟩
def qU (a b:Int):ByteArray:=dH a++WC++dH b
theorem PA (c:a<=2000000)(d:b<=2000000):(qU a b).size<=4000003:=by
 have:=bD c;have:=bD d;have e:WC.size=1:=rfl;simp only[qU,bsz,e];omega
theorem C9 (a b:Int)(w:Wd)(g:zP w)(i:0<=a)(j:a<=2000000)(k:0<=b)(l:b<=2000000):aW 86 #[I a,I b] w λe w'=>e=rt (.string (qU a b))/\aG w w':=by
 have m:=bD j;have hs2:=bD l;go_enter func86,ntmps86;go_wp2_with fail;refine(wO a w g i om).mono ?_;rintro e w1 ⟨rfl,c⟩;have f:=g.zL c;have hz:¬9223372036854775807<(dH a).size+1:=om;go_wp2_with fail;refine(wO b w1 f k om).mono ?_;rintro e w2 ⟨rfl,d⟩;have hz2:¬9223372036854775807<(dH a).size+1+(dH b).size:=om;have h:=aI (aE c d);clear c d;go_wp2;go_ret;exact⟨rfl,h.oQ⟩
def DI3 (a z:Bx)(n m bl off:Nat)(va:Value)(s0 s1 s2 s3:ByteArray)(j:Nat)(v:Value)(_w:World):Prop:=
 match j with
 |0|4|8|9=>v=va
 |1|10=>v=I (n:Int)
 |2=>v=.string s0
 |3=>v=.string s1
 |5=>v=(E bl off)
 |6=>v=(E bl (off+4))
 |7=>v=I a.i
 |11=>v=I (m:Int)
 |12=>v=(E bl (off+m*6))
 |13=>v=(E bl (off+m*6+5))
 |14=>v=I z.o
 |15=>v=.string s2
 |16=>v=.string s3
 |_=>True
theorem wR (l:List Bx)(ao:Oa)(x:Nat)(w:Wd)(hE:zP w)(hX:jG w ao l)(hn:ln l<=1048576)(K:∀b∈l,0<=b.i/\b.i<=2000000/\0<=b.o/\b.o<=2000000):
 aW 88 #[.slice ao (ln l) x] w λe w'=>e=rt (.string (iS l))/\aG w w':=by
 cases l with
 |nil=>
  go_enter func88,ntmps88;go_wp2;go_ret;exact⟨rfl,br _ _⟩
 |cons b r=>
  obtain⟨l,B⟩:=bQ (b::r);have c:l≠[]:=by rw[B];simp
  have d:Hid (iS (b::r)=dH (ln l:Int)++⟨#[64]⟩++qU (l.head c).i (l.getLast c).o):=by
   subst B;show dH _++⟨#[64]⟩++dH _++⟨#[45]⟩++dH _=dH _++⟨#[64]⟩++(dH _++⟨#[45]⟩++dH _);simp only[ByteArray.append_assoc];rfl
  rw[←B]at hX hn K ⊢;rw[←B]at d;clear B b r;rcases hX with h|⟨bl,F,rfl,W⟩;·exact absurd h c
  have C:0<ln l:=lpi.2 c;have R:=W 0 C;have T:=W (ln l-1) om;obtain⟨a,n⟩:=bQ (l.head c);obtain⟨z,t⟩:=bQ (l.getLast c);have ze:l[0]=a:=by rw[n,List.head_eq_getElem]
  have ez:l[ln l-1]'om=z:=by rw[t,List.getLast_eq_getElem]
  rw[ze]at R;rw[ez]at T;obtain⟨V,A,_,_⟩:=K a (by rw[n];exact List.head_mem _);obtain⟨_,_,Z,D⟩:=K z (by rw[t];exact List.getLast_mem _);rw[←n,←t]at d;clear n t ze ez c W K;obtain⟨m,hm⟩:=bQ (ln l-1);have hlm:(ln l:Int)-1=(m:Int):=om;have hml:m<ln l:=om;have hne0:((ln l:Int)==0)=false:=by rw[bfn];omega
  rw[←hm]at T;rw[Nat.zero_mul,naz]at R;clear hm;obtain⟨_,_,_,_,S,_⟩:=R;obtain⟨_,_,_,_,_,U⟩:=T;obtain⟨G,f⟩:∃s,s=dH (ln l:Int):=⟨_,rfl⟩;obtain⟨H,g⟩:∃s,s=G++(⟨#[64]⟩:Ba):=⟨_,rfl⟩;obtain⟨J,j⟩:∃s,s=qU a.i z.o:=⟨_,rfl⟩;obtain⟨M,k⟩:∃s,s=H++J:=⟨_,rfl⟩;have za:G.size<=2000001:=by rw[f];exact bD om
  have zb:H.size=G.size+1:=by rw[g,bsz];rfl
  have zc:J.size<=4000003:=by rw[j];exact PA A D
  have zd:M.size=H.size+J.size:=by rw[k,bsz]
  have gs1:¬9223372036854775807<G.size+1:=om;have gs3:¬9223372036854775807<H.size+J.size:=om;have HT:Hid (iS l=M):=by rw[Hid,d.oQ,←f,←g,←j,←k]
  have O:=aI f;have fs1:=g.symm;have P:=aI j;have fs3:=k.symm;clear d f za g zb j zc k zd;go_enter func88,ntmps88;go_upto_region 3 with fail;refine pG 17 [some 6,some 7,some 8,some 9,some 10,some 11,some 12,some 13,some 14,some 15,some 16,some 17,some 18,some 19,some 20,some 21,some 22] (DI3 a z (ln l) m bl F (sl bl F (ln l) x) G H J M) (λ_ _ _ _ h _=>h) ?step ?fin
  case step=>
   intro ii o N w' X L u p;have z0z:=ctq u S;have z1z:=ctq u U;match ii,X with
   |1,_|3,_|5,_|6,_|7,_|10,_|11,_|12,_|13,_|14,_|16,_=>
    cases L;simp[Region.binds,DI3]at p;simp only[aD,Act.put,p];gi_wp2;exact⟨_,by simp[aH,p],rfl,br _ _⟩
   |0,_|4,_|8,_|9,_=>
    cases L;gi_wp2;exact⟨_,uhx,rfl,br _ _⟩
   |2,_=>
    cases L;simp[Region.binds,DI3]at p;simp only[aD,Act.put,p];gi_wp2_with fail;refine tqx ?_;refine(cw.2 (wO (ln l:Int) w' (hE.zL u) om om)).mono ?_;rintro e w5 ⟨rfl,v⟩;rw[←O.out];gi_wp2;exact⟨_,by simp[aH,p],rfl,v⟩
   |15,_=>
    cases L;simp[Region.binds,DI3]at p;simp only[aD,Act.put,p];gi_wp2_with fail;refine tqx ?_;refine(cw.2 (C9 a.i z.o w' (hE.zL u) V A Z D)).mono ?_;rintro e w5 ⟨rfl,v⟩;rw[←P.out];gi_wp2;exact⟨_,by simp[aH,p],rfl,v⟩
   |q+17,h=>omega
  case fin=>
   intro N w8 u hp;have y:N 16=.string M:=hp 16 dz;have Q:=aI u;clear hp u;simp only[lds,ldz,aD,Act.put];rw[y];clear y;generalize N=N;gi_wp2_with fail;go_wp2;go_ret;exact⟨by rw[HT.oQ];rfl,Q.oQ⟩
def DC3 (vn:Value)(g oo:Nat)(x y:Int)(j:Nat)(v:Value)(_w:World):Prop:=
 match j with
 |0|3=>v=vn
 |1=>v=(E g oo)
 |2=>v=I x
 |4=>v=(E g (oo+1))
 |5=>v=I y
 |6=>v=.agg #[I x,I y]
 |_=>True
theorem NQ (s:Ba)(w:Wd)(hE:zP w)(zb:s.size<=1048575):
 aW 120 #[.string s] w λe w'=>((∃x y,bG 44 s=[x,y]/\j7 [x,y]=true/\e=rt (.agg #[I (aV x),I (aV y)]))∨((j7 (bG 44 s)=false∨¬(ln (bG 44 s))=2)/\e=V1))/\aG w w':=by
 have c:aG w (w.alloc (.cells #[I 0,I 0] 107)):=aC (br _ _) _;have r:=hE.zL c;have l:=wnq w (.cells #[I 0,I 0] 107);obtain⟨W0,U⟩:=cI (w.alloc (.cells #[I 0,I 0] 107));rw[U]at c r l;have k:=kU 44 s;go_enter Tryz.func120,Tryz.ntmps120;go_wp2_with fail;refine(IL s 44 W0 r om).mono ?_;rintro e w1 ⟨⟨rfl,d⟩,t⟩;rw[show(((44:UInt8).toNat:Nat):Int)=44 from rfl]at d ⊢;have m:=aI (aE c t);have D:=bJ l t;clear c t l r;obtain⟨q,X⟩:=bQ (bG 44 s);rw[←X]at d k ⊢;have M:=aI X;clear X;go_wp2_with fail;refine(kE q _ _ w1 d om).mono ?_;rintro e w2 ⟨⟨H,v2,rfl,G⟩|⟨j,rfl⟩,a⟩
 ·obtain⟨a2,c2,rfl,Z⟩:=pW (eN q).symm G;rw[eN]at*;have b:=aI (aE m.oQ a);have F:=bJ D a;clear a m G D;by_cases N:ln q=2
  ·obtain⟨z,A,rfl⟩:∃z A,q=[z,A]:=by
    match q,N with
    |[z,A],_=>exact⟨z,A,rfl⟩
   rcases Z with h|⟨g,O,rfl,u⟩;·cases h
   have J:w2.cell? (Y g O)=some (I (aV z)):=by have:=u 0 (by simp[aS]) 0 _ rfl;simpa[aS]using this
   have K:w2.cell? (Y g (O+1))=some (I (aV A)):=by have:=u 1 (by simp[aS]) 0 _ rfl;simpa[aS]using this
   obtain⟨f,S⟩:∃n,n=aV z:=⟨_,rfl⟩;obtain⟨i,T⟩:∃n,n=aV A:=⟨_,rfl⟩;have HY:Hid (∃x y,bG 44 s=[x,y]/\j7 [x,y]=true/\Ending.returned (.agg #[I f,I i])=rt (.agg #[I (aV x),I (aV y)])):=⟨z,A,M.oQ.symm,pY H,by rw[S,T]⟩;rw[←S]at J;rw[←T]at K;have HA:=aI F;clear S T u H N M k d F;go_wp2_with (go_at_call 45;refine(gQ _).mono ?_;rintro e w' ⟨⟨v,rfl⟩,rfl⟩);refine pG 7 [some 11,some 12,some 13,some 14,some 15,some 16,some 17] (DC3 (sl g O 2 c2) g O f i) (λ_ _ _ _ h _=>h) ?step ?fin
   case step=>
    intro ii o P w' W za B V;have z0z:=ctq B J;have z1z:=ctq B K;match ii,W with
    |1,_|2,_|4,_|5,_|6,_=>
     cases za;simp[Region.binds,DC3]at V;simp only[aD,Act.put,V];gi_wp2;exact⟨_,by simp[aH,V],rfl,br _ _⟩
    |0,_|3,_=>
     cases za;gi_wp2;exact⟨_,uhx,rfl,br _ _⟩
    |q+7,h=>omega
   case fin=>
    intro P L B hp;have e6:P 6=.agg #[I f,I i]:=hp 6 dz;have C:=bJ HA.oQ B;have r0:L.cell? (ya w 0)=some (I 0):=aB C rfl;have r1:L.cell? (ya w 1)=some (I 0):=aB C rfl;have rf:=jS C;have k1:=aP C 0 (I f);have k2:=aP k1 1 (I i);have Q:Hid (aG w ((L.setCell (ya w 0) (I f)).setCell (ya w 1) (I i))):=((aE b.oQ B).setCell (p:=(ya w 0)) (nlq _) _).setCell (p:=(ya w 1)) (nlq _) _;have q0:((L.setCell (ya w 0) (I f)).setCell (ya w 1) (I i)).cell? (ya w 0)=some (I f):=aB k2 rfl;have q1:((L.setCell (ya w 0) (I f)).setCell (ya w 1) (I i)).cell? (ya w 1)=some (I i):=aB k2 rfl;clear hp B C k1 k2;simp only[lds,ldz,aD,Act.put];rw[e6];clear e6;generalize P=P;gi_wp2_with fail;go_wp2_with fail;exact bpr (v:=.agg #[I f,I i]) (by simp[results,Tryz.results120,go_sem,q0,q1]) rfl ⟨.inl HY.oQ,Q.oQ⟩
  ·have R:Hid (j7 (bG 44 s)=false∨¬(ln (bG 44 s))=2):=.inr (by rw[←M.oQ];exact N);have h2':((ln q:Int)==2)=false:=by rw[bfn];omega
   clear N;go_wp2_with (go_at_call 45;refine(jU _).mono ?_;rintro e w' ⟨rfl,rfl⟩);exact⟨rfl,.inr ⟨R.oQ,rfl⟩,b.oQ⟩
 ·have R:Hid (j7 (bG 44 s)=false∨¬(ln (bG 44 s))=2):=.inl (by rw[←M.oQ];exact sA j);have b:=aI (aE m.oQ a);clear j a;go_wp2;exact⟨rfl,.inr ⟨R.oQ,rfl⟩,b.oQ⟩
variable {b:Wd}{v:Va}{a f:List (List Cx)}{l B:Nat}{g:List Yx}{y:Yx}{x:Ba}{n c k:Int}
def KpW (w w':World):Prop:=∀(k:Nat) (c:Array Value) (t:Nat),(t=89∨t=107∨t=3)->w.heap[k]?=some (.cells c t)->w'.heap[k]?=w.heap[k]?
theorem KpW.from (d:aG w w')(h:KpW w' b):KpW w b:=λk c t f a=>by
 have e:=d.block k (iB a);rw[←e]at a ⊢;exact h k c t f a
structure AS (w:World)(v:Value)(cs:List (List Cx)):Prop where
 e:∃wa wl wc,v=.slice wa wl.length wc/\wl.map Yx.l=cs/\(∀w',KpW w w'->Xs 1 Yx.cells w' wa wl/\∀y∈wl,y.In w')/\∀y∈wl,y.l.length<=y.c/\y.c<=9223372036854775807
theorem AS.zL {w w':Wd}(h:AS w v a)(i:aG w w'):AS w' v a:=by
 obtain⟨k,wl,wc,b,c,d,f⟩:=h.e;exact⟨k,wl,wc,b,c,λj g=>d j (g.from i),f⟩
theorem FE.doneK (h:FE l v f w g y B):AS w v f:=by
 have j:=h.out;rw[show(ln g)+1=(ln (g++[y]))by simp]at j;obtain⟨a,c,e,_⟩:=mD Yx.cells_length j;refine⟨a,g++[y],c,e,by rw[←h.eq];simp,λw' i=>⟨?_,λx b=>?_⟩,λx b=>?_⟩
 ·obtain⟨a',c',m,hx,_⟩:=mD Yx.cells_length (jI j (λk f _ d=>i k f _ (.inl rfl) d));cases e.symm.trans m;exact hx
 ·rcases lma.1 b with b|b;·exact h.dw w' (λk c _ d=>i k c _ (.inr (.inl rfl)) d) x b
  ·rw[lms.1 b];exact I8 h.yo (λk c d=>i k c _ (.inr (.inl rfl)) d)
 ·rcases lma.1 b with b|b;·exact h.dc x b
  ·rw[lms.1 b];exact vY h.yo
def ND (O m:Nat)(y:Yx)(x:ByteArray)(n0 n1:Int)(GD:Prop)(j:Nat)(vs:Nat->Value)(w:World):Prop:=
 match j with
 |0=>vs 0=(E O m)
 |1=>vs 1=(E O m)
 |2=>vs 2=(E O m)
 |3=>vs 3=(E O m)
 |4=>vs 4=.slice y.a y.l.length y.c
 |5=>vs 5=.string x
 |6=>vs 6=.agg #[I n0,I n1]/\GD
 |7=>(∃p,vs 7=.slice (some (Y p 0)) 1 1/\w.heap[p]?=some (.cells #[I n0,I n1] 107))/\GD
 |_=>True
theorem ND.zL {a:Prop}(j:Nat)(d:Nat->Va)(w w':Wd)(h:ND l B y x n c a j d w)(i:aG w w'):ND l B y x n c a j d w':=by
 unfold ND at*;split at h
 all_goals first
  |exact h
  |(obtain⟨⟨p,e,f⟩,g⟩:=h;exact⟨⟨p,e,bJ f i⟩,g⟩)
def dpI8 (j:Nat):List Nat:=[j]
def XM (j:Nat):Bool:=j==0
theorem ND.loc {c:Prop}(j:Nat)(b a:Nat->Va)(w:Wd)(g:∀q∈dpI8 j,b q=a q)(h:ND l B y x n k c j b w):ND l B y x n k c j a w:=by
 have e:b j=a j:=g j (by simp[dpI8]);unfold ND at*;split at h
 all_goals first
  |(rw[←e];exact h)
  |trivial
def PfI8 (O m:Nat)(_:Nat)(v:Value):Prop:=v=(E O m)
theorem ND.free {c:Prop}(j:Nat)(b:Nat->Va)(w:Wd)(a:XM j=true)(h:ND l B y x n k c j b w):PfI8 l B j (b j):=by
 simp[XM]at a;subst a;exact h
structure GI8 (W:World)(O m:Nat)(y:Yx)(B:Nat)(c:Cx)(GD:Prop)(t:Nat)(vs:Nat->Value)(w':World):Prop where
 g:GD
 a:t=8->aG W w'/\vs 4=.slice y.a y.l.length y.c/\∃p,vs 7=.slice (some ⟨p,0,none⟩) 1 1/\w'.heap[p]?=some (.cells #[.int .i64 c.x,.int .i64 c.y] 107)
 b:9<=t->∃w0,aG W w0/\w'.ownsRow B 107 2 (vs 8) (y.l.length+1) (aJ Cx.cells y.l++c.cells)/\w0.grownBy w' (Value.slice y.a y.l.length y.c).ownBlock
 c:10<=t->vs 9=.pointer (some ⟨O,m,none⟩)
 d:11<=t->vs 10=.pointer (some ⟨O,m,none⟩)
theorem PT (l:List ByteArray)(a:Option Addr)(X:Nat)(w:World)(hE:zP w)(hX:Xs 1 eE w a l)(hn:l.length<=1048576)(yx:∀x∈l,x.size<=1048575):
 aW 76 #[.slice a l.length X] w λe w'=>((∃G,fV l=some G/\∃v,e=rt v/\AS w' v G)∨(fV l=none/\e=V1))/\aG w w':=by
 obtain⟨iw,ys,yt,yu,yv⟩:=info_parts Tryz.info89;obtain⟨ic,yr,yn,yp,yq⟩:=info_parts Tryz.info107;have yk:aG w (w.alloc (.cells #[ms] 89)):=aC (br _ _) _;have yf:Hid _:=FK (wnq w (.cells #[ms] 89)) (nlq _)
 go_enter Tryz.func76,Tryz.ntmps76
 go_wp2
 go_loopw [3,11] (λv iv wr=>∃(k:Nat) (G:List (List Cx)) (J:List Yx) (y:Yx) (B:Nat),k<=l.length/\iv=I k/\Hid (fV (l.take k)=some G)/\Hid (FE w.heap.size v G wr J y B)/\Hid (J.length<=k/\y.l.length<=k)/\aG w wr) (λ_ iv _=>l.length-(intOf iv).toNat)
 case atStart=>exact⟨0,[[]],[],⟨none,[],0⟩,_,nz _,rfl,rfl,yf.oQ,⟨nlq _,nlq _⟩,yk⟩
 case round=>
  obtain⟨k,G,J,y,B,hk,rfl,HC,V,HL,hN⟩:=hrel
  by_cases N:k<l.length
  ·have zx:(k:Int)<(l.length:Int):=om
   rcases hX.zL hN with h|⟨bl,yw,ym,zu⟩
   ·rw[h]at N;simp at N
   subst ym;have c0:wr.cell? (Y bl (yw+k*1))=some (.string l[k]):=zu k N 0 _ rfl;rw[Nat.mul_one]at c0;have HS:Hid _:=DD l k N;rw[HC.oQ]at HS;have zz:=yx _ (lgm N);obtain⟨x,hx⟩:=bQ (l[k]);rw[←hx]at c0 HS zz;clear zu hx hX HC
   by_cases Z:x.toList=[47]
   ·have zj:=aI (HS.oQ.trans (Q6 Z))
    clear HS;have W:Hid _:=V.oQ.zL (aC (br _ wr) (.cells #[ms] 89));clear V
    go_wp2_with (at_builtin;refine wpList_append_own _ rfl (.tmp 17) (.tmp 19) 37 rfl w.heap.size 89 iw _ 1 24 Tryz.underlying37 ys yt yu yv rfl dz _ _ _ rfl W.oQ.out (Y wr.heap.size 0) 1 1 [ms] rfl rfl ?qc1 ?qc2 ?qc3 ?qc4 ?qc5 ?_)
    case qc1=>
     intro j u hj
     match j,hj with
     |0,hj=>simp at hj;subst hj;exact aB (wnq wr _) rfl
     |j+1,hj=>simp at hj
    case qc2=>first|rfl|(intro u hu;simp at hu;subst hu;rfl)
    case qc3=>have:=HL.oQ;unfold maxLen;omega
    case qc4=>have:=HL.oQ;omega
    case qc5=>have:=hN.size;simp;omega
    intro v' w4 Q D _;have yg:=aI (W.oQ.next Q D);have yl:aG w w4:=(aC hN _).grown D (by have:=hN.size;simp;omega) (λq hq=>eH W.oQ.out hq);clear Q D W;go_wp2
    go_roundw
    case rel=>exact⟨k+1,G++[[]],J++[y],⟨none,[],0⟩,_,om,gn,zj,yg,⟨by have:=HL.oQ;simp;omega,nz _⟩,yl⟩
    case measure=>simp[intOf];omega
   ·have hsl2:(x.toList==[47])=false:=by simp[Z]
    have zq:Hid (j7 (bG 44 x)=false∨¬(bG 44 x).length=2->fV l=none):=λh=>xP (HS.oQ.trans (JA Z h));obtain⟨R,e0⟩:∃n,n=aV ((bG 44 x).getD 0 ⟨#[]⟩):=⟨_,rfl⟩;obtain⟨S,e1⟩:∃n,n=aV ((bG 44 x).getD 1 ⟨#[]⟩):=⟨_,rfl⟩;obtain⟨U,zk⟩:∃U:Prop,U=∃p q,bG 44 x=[p,q]/\j7 [p,q]=true:=⟨_,rfl⟩;have ye:Hid (∀p q,bG 44 x=[p,q]->j7 [p,q]=true->U):=λp q L h2=>by rw[zk];exact⟨p,q,L,h2⟩
    have zc:Hid (∀p q,bG 44 x=[p,q]->R=aV p/\S=aV q):=λp q h=>by rw[e0,e1,h];exact⟨rfl,rfl⟩
    have zh:Hid (U->fV (l.take (k+1))=some (G.dropLast++[G.getLastD []++[⟨R,S⟩]])):=λh=>by
     rw[zk]at h;obtain⟨p,q,L,h2⟩:=h;obtain⟨rfl,rfl⟩:=zc.oQ p q L;exact HS.oQ.trans (KZ Z L h2)
    clear e0 e1 zk HS
    obtain⟨O,zr,rfl⟩:∃O c,u3=.slice (some (Y O 0)) (J.length+1) c:=by
     obtain⟨_,⟨_,e⟩|⟨g,X,_,e,_⟩⟩:=V.oQ.out
     ·omega
     ·exact⟨g,X,e⟩
    have yh:Hid (∃H,wr.heap[O]?=some (.cells H 89)):=by
     obtain⟨_,⟨e,_⟩|⟨g,X,H,e,_,e2,_⟩⟩:=V.oQ.out
     ·cases e
     ·cases e;exact⟨H,e2⟩
    have ko:wr.cell? (Y O J.length)=some (.slice y.a y.l.length y.c):=by
     have hx:Xs 1 Yx.cells wr (some (Y O 0)) (J++[y]):=by
      have s:=V.oQ.out;rw[show J.length+1=(J++[y]).length by simp]at s;obtain⟨a,c,e,hx,_⟩:=mD Yx.cells_length s
      cases e
      exact hx
     rcases hx with h|⟨bb,oo,e,hc⟩
     ·simp at h
     ·cases e
      have:=hc J.length sm 0 _ rfl
      simpa using this
    obtain⟨m,hm⟩:=bQ J.length;have HM:=aI hm;rw[←hm]at ko ⊢;clear hm;have K:Hid (m<=k/\y.l.length<=k):=by rw[Hid,HM.oQ];exact HL.oQ
    clear HL;have hmk:m<=1048576:=by have:=K.oQ;omega
    have hm1:((m+1:Nat):Int)-1=(m:Int):=om
    go_upto_region 8 with fail
    refine ZC 6 8 11 [some 26,some 27,some 28,some 29,some 30,some 31,some 32,some 33,some 34,some 35,some 36] XM dpI8 (ND O m y x R S U) (PfI8 O m) (GI8 wr O m y B ⟨R,S⟩ U) ND.zL ND.loc ND.free ?step ?free ?g0 ?gf ?store ?fin
    case step=>
     intro ii o T w' zw s z A;have z2z:=(z.cell (aA ko)).trans ko
     match ii,zw with
     |2,_|3,_|4,_=>
      simp at s;subst s
      simp[Region.binds,ND]at A
      simp only[aD,Act.put,A];gi_wp2;exact⟨_,by simp[aH,A],rfl,br _ _⟩
     |0,_|1,_|5,_=>
      simp at s;subst s;simp only[aD,Act.put];gi_wp2;exact⟨_,by simp[aH],rfl,br _ _⟩
     |6,_=>
      simp at s;subst s
      simp[Region.binds,ND]at A
      simp only[aD,Act.put,A];gi_wp2_with fail
      refine⟨trivial,rfl,?_⟩;refine(cw.2 (NQ x w' ((hE.zL hN).zL z) zz)).mono ?_
      rintro e w5 ⟨⟨p,q,hc,zy,rfl⟩|⟨zd,rfl⟩,zm⟩
      ·obtain⟨rfl,rfl⟩:=zc.oQ p q hc
       have HG:Hid U:=ye.oQ p q hc zy;clear hc zy;gi_wp2;exact⟨_,by simp[aH,A],⟨rfl,HG.oQ⟩,zm⟩
      ·have HZ:=aI (zq.oQ zd)
       have zi:=aI (aE (aE hN z) zm);clear zd zm;gi_wp2;exact⟨rfl,.inr ⟨HZ.oQ,rfl⟩,zi.oQ⟩
     |7,_=>
      simp at s;subst s;obtain⟨d6,f⟩:=Zq A 6;have HG:Hid U:=f;clear A f;simp only[aD,Act.put,d6];gi_wp2;exact⟨_,by simp[aH,d6],⟨⟨_,rfl,wnq w' _⟩,HG.oQ⟩,aC (br _ _) _⟩
     |q+8,h=>omega
    case free=>
     intro i o T w' t zw zn s ht htM f A;have zp:i=0:=by simpa[XM]using zn
     subst zp;clear f A;simp at s;subst s;simp only[aD,Act.put];gi_wp2;exact⟨(E O m),by simp[aH],rfl,trivial⟩
    case g0=>
     intro T w' z hp;exact⟨(hp 7 dz rfl).2,λ_=>⟨z,hp 4 dz rfl,(hp 7 dz rfl).1⟩,λh=>absurd h dz,λh=>absurd h dz,λh=>absurd h dz⟩
    case gf=>
     intro t T w' i v zn f;have zp:i=0:=by simpa[XM]using zn
     subst zp;exact⟨f.g,f.a,f.b,f.c,f.d⟩
    case store=>
     intro t o T w' h12 h15 s f A;have HG:Hid U:=f.g;have ht:t=8∨t=9∨t=10:=om
     rcases ht with rfl|rfl|rfl
     ·simp at s
      subst s;obtain⟨z,d4,p,d7,hp⟩:=f.a rfl;have HY:Hid _:=V.oQ.zL z;have yb:=aI z
      have P:∀j u,((⟨R,S⟩:Cx).cells)[j]?=some u->w'.cell? (((Y p 0):Addr).add j)=some u:=λj u h=>by
       rw[aal,nza]
       match j,h with
       |0,h=>simp[Cx.cells]at h;subst h;exact aB hp rfl
       |1,h=>simp[Cx.cells]at h;subst h;exact aB hp rfl
      have zf:∀u∈(⟨R,S⟩:Cx).cells,u.oneCell'=true:=λu hu=>by
       simp[Cx.cells]at hu
       rcases hu with rfl|rfl<;>rfl
      clear f A z;simp only[aD,Act.put,sit,lcs,lcz];rw[d4,d7];refine wpListIn_append_own w' rfl (.tmp 30) (.tmp 33) 87 rfl B 107 ic _ 2 16 Tryz.underlying87 yr yn yp yq rfl dz (.slice y.a y.l.length y.c) y.l.length (aJ Cx.cells y.l) rfl HY.oQ.yo (Y p 0) 1 1 (⟨R,S⟩:Cx).cells rfl rfl P zf (by have:=K.oQ;unfold maxLen;omega) (by have:=K.oQ;omega) HY.oQ.hi (λv1 w1 r C _=>?_);have yc:=aI r;have yd:=aI C;clear r C P zf;gi_wp2;exact⟨v1,by simp[aH,d4,d7],HG.oQ,λh=>absurd h dz,λ_=>⟨w',yb.oQ,yc.oQ,yd.oQ⟩,λh=>absurd h dz,λh=>absurd h dz⟩
     ·simp at s
      subst s;have d0:T 0=(E O m):=A (eD 0) sm rfl dz rfl;have zg:Hid (∃w0,aG wr w0/\w'.ownsRow B 107 2 (T 8) (y.l.length+1) (aJ Cx.cells y.l++(⟨R,S⟩:Cx).cells)/\w0.grownBy w' (Value.slice y.a y.l.length y.c).ownBlock):=f.b dz;clear f A;simp only[aD,Act.put,d0];gi_wp2;exact⟨_,by simp[aH,d0],HG.oQ,λh=>absurd h dz,λ_=>zg.oQ,λ_=>rfl,λh=>absurd h dz⟩
     ·simp at s
      subst s;have d9:=f.c dz;have zg:Hid (∃w0,aG wr w0/\w'.ownsRow B 107 2 (T 8) (y.l.length+1) (aJ Cx.cells y.l++(⟨R,S⟩:Cx).cells)/\w0.grownBy w' (Value.slice y.a y.l.length y.c).ownBlock):=f.b dz;clear f A;simp only[aD,Act.put,d9];gi_wp2;exact⟨_,by simp[aH,d9],HG.oQ,λh=>absurd h dz,λ_=>zg.oQ,λ_=>d9,λ_=>rfl⟩
    case fin=>
     intro T w' f hp;have zj:=aI (zh.oQ f.g);have zs:=f.d dz;obtain⟨w0,z,r,C⟩:=f.b dz;have HY:Hid _:=V.oQ.zL z;obtain⟨v1,za⟩:=bQ (T 8);rw[←za]at r;have zv:=FE.cell ⟨R,S⟩ HY.oQ r C;rw[←HM.oQ]at zv;obtain⟨y',zb,zl⟩:=zv;obtain⟨H,ze⟩:=yh.oQ;have F:w0.heap[O]?=some (.cells H 89):=bJ ze z;have M:w'.heap[O]?=some (.cells H 89):=(s9 HY.oQ.yo C F dz).trans F
     have hk2:w'.cell? (Y O m)=some (.slice y.a y.l.length y.c):=by
      have L:w0.cell? (Y O m)=some (.slice y.a y.l.length y.c):=(z.cell (aA ko)).trans ko;unfold World.cell? at L ⊢;rw[F]at L;rw[M];exact L
     have hkf:=jS M
     have yj:Hid (y'.l.length<=k+1):=by
      have h3:=MU r zb;have:=K.oQ;rw[Hid];omega
     rw[za]at zb
     have yi:Hid (FE w.heap.size (.slice (some (Y O 0)) (m+1) zr) (G.dropLast++[G.getLastD []++[⟨R,S⟩]]) (w'.setCell (Y O m) (.slice y'.a y'.l.length y'.c)) J y' B):=by
      rw[za,zb]at zl;exact zl
     have zi:Hid (aG w (w'.setCell (Y O m) (.slice y'.a y'.l.length y'.c))):=by
      have zt:w.heap.size<=O:=eH V.oQ.out rfl;have L:=aE hN z;have h2:aG w w':=L.grown C L.size (λq hq=>by have:=eH HY.oQ.yo hq;have:=HY.oQ.lo;omega);exact h2.setCell zt _
     simp only[lds,ldz,aD,Act.put];rw[zs,zb];clear hp f z r C zl ze F M HY za zs;generalize T=T;gi_wp2_with fail
     go_wp2
     go_roundw
     case rel=>exact⟨k+1,_,J,y',B,om,gn,zj,yi.oQ,⟨by have:=K.oQ;have:=HM.oQ;omega,yj.oQ⟩,zi.oQ⟩
     case measure=>simp[intOf];omega
  ·have zx:¬(k:Int)<(l.length:Int):=om
   have HZ:Hid (fV l=some G):=by rw[Hid];have:=HC.oQ;rw[ltl om]at this;exact this
   clear HC;go_wp2
   go_ret;exact⟨.inl ⟨G,HZ.oQ,_,rfl,V.oQ.doneK⟩,hN⟩
end Go.Proofs.YtoolgmmljacfmaaGreatDoor
namespace Go.Proofs.YtoolgmmljacfmaaGreatDoor
open Go.BigFrame
variable {w w':Wd}{n e sz m o z:Nat}{v:Va}{xs:List Va}{F S':Nat → Prop}{s:St}{b l r b':Bk}{x:Ba}
theorem xZ (h:w.ownsRow n e sz v m xs)(j:∀k,v.ownBlock=some k->w'.heap[k]?=w.heap[k]?):w'.ownsRow n e sz v m xs:=by
 obtain⟨c,h|⟨g,a,b,rfl,d,f,i⟩⟩:=h;·exact⟨c,.inl h⟩
 ·exact⟨c,.inr ⟨g,a,b,rfl,d,(j g rfl).trans f,i⟩⟩
structure lH (F:Nat->Prop)(S:Nat)(w:World)(s:St)(b:Bk)(v:Value):Prop where
 o:w.heap[S]?=some (.cells #[.int .i64 b.now,.slice b.fa b.fl.length b.fc,.slice b.ha b.hl.length b.hc,v] 55)
 h:w.ownsRow 8 91 6 v s.t.length (fG s.t)
 b:eI (λk=>k=S∨v.ownBlock=some k∨¬F k) w s.b b
 fS:F S
 fh:∀k,v.ownBlock=some k->F k
 fl:∀k,F k->8<=k/\k<w.heap.size
 e:zP w
theorem lH.zL {w w':Wd}(h:lH F n w s b v)(a:aG w w'):lH F n w' s b v:=
 ⟨bJ h.o a,dC h.h a,h.b.zL a,h.fS,h.fh,λk c=>⟨(h.fl k c).1,nll (h.fl k c).2 a.size⟩,h.e.zL a⟩
theorem eI.mono (h:eI F w l b)(d:∀k,S' k->F k):eI S' w l b:=⟨h.c,λw' a=>h.i w' (a.wide d),h.f1,h.f2⟩
theorem lH.out (h:lH F n w s b v)(c:aU (λk=>¬F k) w w')(d:zP w'):lH F n w' s b v:=
 ⟨bF h.o c (λe=>e h.fS),xZ h.h (λk a=>c.block k (h.fl k (h.fh k a)).2 (λe=>e (h.fh k a))),h.b.but (c.wide (λ_ a=>.inr (.inr a))),h.fS,h.fh,λk a=>⟨(h.fl k a).1,nll (h.fl k a).2 c.size⟩,d⟩
theorem lH.c (h:lH F n w s b v):w.cell? (Y n 0)=some (I b.now)/\w.cell? (Y n 1)=some (.slice b.fa (ln b.fl) b.fc)/\w.cell? (Y n 2)=some (.slice b.ha (ln b.hl) b.hc)/\w.cell? (Y n 3)=some v:=⟨aB h.o rfl,aB h.o rfl,aB h.o rfl,aB h.o rfl⟩
theorem lH.fz (h:lH F n w s b v):∀i,w.frozen? (Y n i)=false:=λi=>by simp[World.frozen?,h.o]
theorem lH.hv (h:lH F n w s b v):∃ta a,v=.slice ta (ln s.t) a/\jG w ta s.t:=by
 obtain⟨ta,a,e,hx⟩:=(aN.of_owns h.h).slice;exact⟨ta,a,e,hx⟩
theorem lH.ne (h:lH F n w s b v):v.ownBlock≠some n:=λe=>by
 obtain⟨_,⟨a,_⟩|⟨g,cap,cur,a,_,c,_⟩⟩:=h.h;·rw[a]at e;simp[Value.ownBlock]at e
 ·rw[a]at e;simp[Value.ownBlock]at e;rw[e,h.o]at c;simp at c
theorem lH.neS (h:lH F sz w s b v)(a:w.cell? (Y m o)=some (.string x)):m≠sz:=λe=>by
 subst e;obtain⟨ta,tc,rfl,_⟩:=h.hv;simp only[World.cell?,h.o]at a;match o,a with
 |0,a=>simp at a
 |1,a=>simp at a
 |2,a=>simp at a
 |3,a=>simp at a
 |n+4,a=>simp at a
theorem lH.nil (h:lH F n w s b v):lH F n (w.setCell (Y n 3) (ms)) ⟨s.b,[]⟩ b (ms):=by
 have c:aU (λk=>k=n) w (w.setCell (Y n 3) (ms)):=(aU.refl (λk=>k=n) w).set (g:=n) rfl _ _;have d:aU (λk=>k=n∨v.ownBlock=some k∨¬F k) w (w.setCell (Y n 3) (ms)):=c.wide (λ_ e=>.inl e);refine⟨aP h.o 3 _,⟨rfl,.inl ⟨rfl,rfl⟩⟩,(h.b.but d).mono (λk a=>?_),h.fS,λk a=>by simp[Value.ownBlock]at a,λk a=>⟨(h.fl k a).1,nll (h.fl k a).2 c.size⟩,h.e.but c (λk e=>by rw[e];exact(h.fl n h.fS).1)⟩;rcases a with a|a|a;·exact .inl a
 ·simp[Value.ownBlock]at a
 ·exact .inr (.inr a)
def ImR (F:Nat->Prop)(S:Nat)(w:World)(r:St×ByteArray)(e:Ending)(w':World):Prop:=(∃F' b' v',lH F' S w' r.1 b' v'/\∀k,F' k->F k∨w.heap.size<=k)/\e=rt (.string r.2)/\aU F w w'
def XT (F:Nat->Prop)(S:Nat)(w:World)(s:St)(r:St×ByteArray)(e:Ending)(w':World):Prop:=(r=(s,dR)/\e=V1/\aG w w')∨ImR F S w r e w'
theorem lH.put (h:lH F sz w s b v)(j:sz<z)(q:∀k,v.ownBlock=some k->k<z)(m:eI (λk=>k<z) w r b'):lH (λk=>F k∨(z<=k/\k<w.heap.size)) sz (gI w sz b') ⟨r,s.t⟩ b' v:=by
 have d:=dJ w sz b';have l:(gI w sz b').heap.size=w.heap.size:=by simp[gI,World.setCell]
 have p:∀k,k=sz∨v.ownBlock=some k∨¬(F k∨(z<=k/\k<w.heap.size))->k<w.heap.size->k<z:=λk a A=>by
  rcases a with rfl|a|a;·exact j
  ·exact q k a
  ·rcases Nat.lt_or_ge k z with g|g;·exact g
   ·exact absurd (.inr ⟨g,A⟩) a
 refine⟨?_,jI h.h (λk cs _ n=>d.block k (iB n) (λe=>?_)),⟨m.c,λB f=>m.i B ?_,m.f1,m.f2⟩,.inl h.fS,λk a=>.inl (h.fh k a),λk a=>?_,h.e.but d (λk e=>by rw[e];exact(h.fl sz h.fS).1)⟩;·exact aP (aP (aP h.o 0 _) 1 _) 2 _
 ·have u:k=sz:=e;subst u;rw[h.o]at n;simp at n
 ·have x:aU (λk=>k<z) w (gI w sz b'):=d.wide (λk e=>by rw[e];exact j);refine x.trans ⟨f.os,f.tape,f.output,f.size,λk a y=>f.block k a (λe=>y (p k e (by rw[←l];exact a)))⟩
 ·rw[l];rcases a with a|a;·exact h.fl k a
  ·exact⟨by have:=(h.fl sz h.fS).1;omega,a.2⟩
theorem lH.fit (h:lH F n w s b v):n<w.heap.size/\∀k,v.ownBlock=some k->k<w.heap.size:=⟨iB h.o,λk a=>(h.fl k (h.fh k a)).2⟩
theorem uO (F:Nat->Prop)(S:Nat)(w:Wd)(s:St)(b:Bk)(v:Va)(y:lH F S w s b v)(z:Nat)(m:S<z)(o:∀k,v.ownBlock=some k->k<z)(r b':Bk)(n:eI (λk=>k<z) w r b')(c:Int)(u:0<=c)(x:c<=2000000):
 aW 80 #[E S 0,b'.val,I c] w λe w'=>((∃p b' B,lH p S w' ⟨r,s.t⟩ b' B/\∀k,p k->F k∨z<=k)/\e=rt (.string (jC c)))/\aU (λk=>k=S) w w':=by
 have d:aG w (w.alloc b'.obj):=aC (br _ _) _;have a:=(y.zL d);have HP:=aI (a.put m o (n.zL d));have i:Hid (aU (λk=>k=S) w (gI (w.alloc b'.obj) S b')):=(aU.below d).trans (dJ _ S b');obtain⟨W0,g⟩:=cI (w.alloc b'.obj);rw[g]at a HP i;obtain⟨c0,c1,c2,c3⟩:=a.c;have cf:=a.fz;have q:W0.heap[w.heap.size]?=some b'.obj:=by rw[←g];exact wnq w _
 obtain⟨k0,k1,k2⟩:=aM q;clear d a q;go_enter Tryz.func80,Tryz.ntmps80;go_wp2_with fail;refine(wD c _ HP.oQ.e u x).mono ?_;rintro e w2 ⟨rfl,f⟩;have l:Hid _:=HP.oQ.zL f;have j:Hid _:=i.oQ.trans (aU.below f);clear f HP i;go_wp2;go_ret;exact⟨⟨⟨_,_,_,l.oQ,λk A=>A.elim .inl (λh=>.inr h.1)⟩,rfl⟩,j.oQ⟩
variable {S a Z:Nat}{f:Bk}{h:Va}{nm:Ba}{g:Bool}{c:Int}
def IH2 (S:Nat)(b:Bk)(vw:Value)(bl off:Nat)(nm:ByteArray)(tk:Bool)(s':Bk)(c:Int)(Z:Nat)(j:Nat)(v:Value)(w:World):Prop:=
 match j with
 |0|1|2|3=>v=(E S 0)
 |4=>v=b.val
 |5=>v=vw
 |6=>v=(E bl off)
 |7=>v=.string nm
 |8=>v=.bool tk
 |9=>∃b':Bk,v=.tuple #[b'.val,I c]/\eI (λk=>k<Z) w s' b'
 |10=>∃b':Bk,v=b'.val/\eI (λk=>k<Z) w s' b'
 |11=>v=I c
 |_=>True
theorem IH2.zL (j:Nat)(v:Va)(w w':Wd)(d:IH2 S b h e a nm g f c Z j v w)(l:aG w w'):IH2 S b h e a nm g f c Z j v w':=by
 unfold IH2 at*;split at d
 all_goals first
  |exact d
  |(obtain⟨b',i,k⟩:=d;exact⟨b',i,k.zL l⟩)
theorem GE (F:Nat->Prop)(S:Nat)(w:Wd)(s:St)(b:Bk)(v:Va)(m:lH F S w s b v)(kk:Nat)(X:jF kk s)(a:List Ba)(ao:Oa)(x:Nat)(hX:Xs 1 eE w ao a)(took:Bool):
 aW 82 #[E S 0,.slice ao (ln a) x,.bool took] w λe w'=>XT F S w s (n9 took s a) e w':=by
 by_cases N:ln a=1
 ·obtain⟨nm,rfl⟩:∃nm,a=[nm]:=leo.1 N;rcases hX with h|⟨U,n,rfl,H⟩;·cases h
  have c1:w.cell? (Y U n)=some (.string nm):=by have:=H 0 sm 0 _ rfl;simpa using this
  clear N H;obtain⟨D,G⟩:=pC s.b nm;obtain⟨c,i⟩:=cI (cG s.b nm);have M:Hid (n9 took s [nm]=(⟨dN s.b s.b.now (dI s.b nm took),s.t⟩,jC c)):=by rw[←i];rfl
  rw[i]at D G;have Q:=aI i;have r:Hid (aU F w w):=aU.refl _ _;clear i;go_enter func82,ntmps82;go_wp2_with (go_at_call 45;refine(gQ _).mono ?_;rintro e w' ⟨⟨u,rfl⟩,K⟩;rw[K];clear K);refine pG 12 [some 11,some 12,some 13,some 14,some 15,some 16,some 17,some 18,some 19,some 20,some 21,some 22] (IH2 S b (sl U n 1 x) U n nm took (dN s.b s.b.now (dI s.b nm took)) c w.heap.size) IH2.zL ?step ?fin
  case step=>
   intro ii o L w' W J g f;obtain⟨z0z,z1z,z2z,z3z⟩:=(m.zL g).c;have z4z:=ctq g c1;match ii,W with
   |2,_|3,_|4,_|6,_|7,_=>
    cases J;simp[Region.binds,IH2]at f;simp only[aD,Act.put,f];gi_wp2;exact⟨_,by simp[aH,f],rfl,br _ _⟩
   |0,_|1,_|5,_|8,_=>
    cases J;gi_wp2;exact⟨_,uhx,rfl,br _ _⟩
   |9,_=>
    cases J;simp[Region.binds,IH2]at f;simp only[aD,Act.put,f];gi_wp2_with fail;refine tqx ?_;refine(cw.2 (SE (S':=λk=>k<w.heap.size) (m.e.zL g).l (m.zL g).b X.b nm took (λk e=>nll e g.size))).mono ?_;rintro e w5 ⟨⟨b',rfl,d⟩,V⟩;have j:=aI d;clear d;rw[Q.oQ];gi_wp2;exact⟨_,by simp[aH,f],⟨b',rfl,j.oQ⟩,V⟩
   |10,_=>
    cases J;obtain⟨b',y,d⟩:=Zq f 9;have j:=aI d;clear f d;simp only[aD,Act.put,y];gi_wp2;exact⟨_,by simp[aH,y],⟨b',rfl,j.oQ⟩,br _ _⟩
   |11,_=>
    cases J;obtain⟨b',y,d⟩:=Zq f 9;have j:=aI d;clear f d;simp only[aD,Act.put,y];gi_wp2;exact⟨_,by simp[aH,y],rfl,br _ _⟩
   |q+12,h=>omega
  case fin=>
   intro L w8 g O;have e0:L 0=(E S 0):=O 0 dz;obtain⟨b',eb,d⟩:=O 10 dz;have ec:L 11=I c:=O 11 dz;have A:=m.zL g;have p:=aI (r.oQ.trans (aU.below g));have j:=aI d;clear O g d;simp only[lds,ldz,aD,Act.put];rw[e0,eb,ec];clear e0 eb ec;generalize L=L;gi_wp2_with fail;refine tqx ?_;refine(cw.2 (uO F S w8 _ b _ A w.heap.size m.fit.1 m.fit.2 _ b' j.oQ c D G)).mono ?_;rintro e w9 ⟨⟨⟨Z,b9,v9,B,z⟩,rfl⟩,C⟩;have T:=aI B;have R:Hid (∀k,Z k->F k∨w.heap.size<=k):=λk hk=>(z k hk).elim .inl (λh=>.inr (nlt r.oQ.size h));have P:Hid (aU F w w9):=p.oQ.trans (C.wide (λk e=>by rw[e];exact m.fS));clear B C p j A z;gi_wp2_with fail;go_wp2;go_ret;exact .inr ⟨⟨Z,b9,v9,by rw[M.oQ];exact T.oQ,R.oQ⟩,by rw[M.oQ];rfl,P.oQ⟩
 ·have M:Hid (n9 took s a=(s,dR)):=xV N;have hl':((ln a:Int)==1)=false:=by rw[bfn];omega
  clear N;go_enter func82,ntmps82;go_wp2_with (go_at_call 45;refine(jU _).mono ?_;rintro e w' ⟨rfl,rfl⟩);exact⟨rfl,.inl ⟨M.oQ,rfl,br _ _⟩⟩
theorem TO (F:Nat->Prop)(S:Nat)(w:Wd)(s:St)(b:Bk)(v:Va)(k:lH F S w s b v)(i:Nat)(h:jF i s)(a:List Ba)(g:Oa)(c:Nat)(l:Xs 1 eE w g a):
 aW 38 #[E S 0,.slice g (ln a) c] w λe w'=>XT F S w s (n9 true s a) e w':=by
 go_enter func38,ntmps38;go_wp2_with fail;refine(GE F S w s b v k i h a g c l true).mono ?_;rintro e w' (⟨d,rfl,f⟩|⟨d,rfl,f⟩)
 ·have H:=aI d;clear d;go_wp2;exact⟨rfl,.inl ⟨H.oQ,rfl,f⟩⟩
 ·have H:=aI d;have j:=aI f;clear d f;go_wp2;go_ret;exact .inr ⟨H.oQ,rfl,j.oQ⟩
theorem GP (F:Nat->Prop)(S:Nat)(w:Wd)(s:St)(b:Bk)(v:Va)(k:lH F S w s b v)(i:Nat)(h:jF i s)(a:List Ba)(g:Oa)(c:Nat)(l:Xs 1 eE w g a):
 aW 39 #[E S 0,.slice g (ln a) c] w λe w'=>XT F S w s (n9 false s a) e w':=by
 go_enter func39,ntmps39;go_wp2_with fail;refine(GE F S w s b v k i h a g c l false).mono ?_;rintro e w' (⟨d,rfl,f⟩|⟨d,rfl,f⟩)
 ·have H:=aI d;clear d;go_wp2;exact⟨rfl,.inl ⟨H.oQ,rfl,f⟩⟩
 ·have H:=aI d;have j:=aI f;clear d f;go_wp2;go_ret;exact .inr ⟨H.oQ,rfl,j.oQ⟩
variable {g:Va}
def IA4 (S:Nat)(b:Bk)(vw:Value)(bl off:Nat)(nm:ByteArray)(tv:Value)(s':Bk)(c:Int)(Z:Nat)(j:Nat)(v:Value)(w:World):Prop:=
 match j with
 |0|1|2|3=>v=(E S 0)
 |4=>v=b.val
 |5=>v=vw
 |6=>v=(E bl off)
 |7=>v=.string nm
 |8=>v=tv
 |9=>∃b':Bk,v=.tuple #[b'.val,I c]/\eI (λk=>k<Z) w s' b'
 |10=>∃b':Bk,v=b'.val/\eI (λk=>k<Z) w s' b'
 |11=>v=I c
 |_=>True
theorem IA4.zL (j:Nat)(v:Va)(w w':Wd)(d:IA4 S b h e a nm g f c Z j v w)(l:aG w w'):IA4 S b h e a nm g f c Z j v w':=by
 unfold IA4 at*;split at d
 all_goals first
  |exact d
  |(obtain⟨b',i,k⟩:=d;exact⟨b',i,k.zL l⟩)
theorem NP (F:Nat->Prop)(S:Nat)(w:Wd)(s:St)(b:Bk)(v:Va)(d:lH F S w s b v)(kk:Nat)(T:jF kk s)(a:List Ba)(ao:Oa)(G:Nat)(hX:Xs 1 eE w ao a)(hkk:kk<=1000):
 aW 37 #[E S 0,.slice ao (ln a) G] w λe w'=>XT F S w s (rW s a) e w':=by
 by_cases hl:ln a=1
 ·obtain⟨nm,rfl⟩:∃nm,a=[nm]:=leo.1 hl;rcases hX with h|⟨X,r,rfl,Q⟩;·cases h
  have D:w.cell? (Y X r)=some (.string nm):=by have:=Q 0 sm 0 _ rfl;simpa using this
  clear hl Q;obtain⟨ta,tc,rfl,ze⟩:=d.hv;obtain⟨q0,q1,q2,q3⟩:=d.c;have yf:=d.fz;have m:aU (λk=>k=S) w (w.setCell (Y S 3) (ms)):=(aU.refl (λk=>k=S) w).set (g:=S) rfl _ _;have C:Hid (jG (w.setCell (Y S 3) (ms)) ta s.t):=(aN.of_owns (xZ d.h (λk Z=>m.block k (d.fit.2 k Z) (λe=>d.ne (by rw[Z];exact congrArg some e))))).xs;have A:=d.nil;have z:=m.cell (p:=(Y X r)) (d.neS D) D;clear ze;obtain⟨O,P⟩:=CD s.b nm s.t;obtain⟨c,n⟩:=cI (dX s.b nm s.t);have W:Hid (rW s [nm]=(⟨dN s.b s.b.now (gA s.b nm s.t),[]⟩,jC c)):=by rw[←n];rfl
  rw[n]at O P;have zb:=aI n;have y:Hid (aU F w (w.setCell (Y S 3) (ms))):=m.wide (λk e=>by rw[e];exact d.fS);clear n;go_enter Tryz.func37,Tryz.ntmps37;go_wp2_with (go_at_call 45;refine(gQ _).mono ?_;rintro e w' ⟨⟨u,rfl⟩,U⟩;rw[U];clear U);go_upto_region 4 with fail;obtain⟨W1,M⟩:=cI (w.setCell (Y S 3) (ms));rw[M]at C A z y ⊢;clear M q0 q1 q2 q3 yf m d D;have d:=A;have D:=z;clear z A;refine pG 12 [some 17,some 18,some 19,some 20,some 21,some 22,some 23,some 24,some 25,some 26,some 27,some 28] (IA4 S b (sl X r 1 G) X r nm (.slice ta (ln s.t) tc) (dN s.b s.b.now (gA s.b nm s.t)) c W1.heap.size) IA4.zL ?step ?fin
  case step=>
   intro ii o V w' zg R i j;obtain⟨z0z,z1z,z2z,z3z⟩:=(d.zL i).c;have z4z:=ctq i D;match ii,zg with
   |2,_|3,_|4,_|6,_|7,_=>
    cases R;simp[Region.binds,IA4]at j;simp only[aD,Act.put,j];gi_wp2;exact⟨_,by simp[aH,j],rfl,br _ _⟩
   |0,_|1,_|5,_|8,_=>
    cases R;gi_wp2;exact⟨_,uhx,rfl,br _ _⟩
   |9,_=>
    cases R;simp[Region.binds,IA4]at j;simp only[aD,Act.put,j];gi_wp2_with fail;refine tqx ?_;refine(cw.2 (OG (S':=λk=>k<W1.heap.size) (d.e.zL i).l (d.zL i).b T.b nm s.t ta tc (C.oQ.zL i) (by have:=T.t;omega) (λk e=>nll e i.size))).mono ?_;rintro e w5 ⟨⟨b',rfl,f⟩,zf⟩;have x:=aI f;clear f;rw[zb.oQ];gi_wp2;exact⟨_,by simp[aH,j],⟨b',rfl,x.oQ⟩,zf⟩
   |10,_=>
    cases R;obtain⟨b',H,f⟩:=Zq j 9;have x:=aI f;clear j f;simp only[aD,Act.put,H];gi_wp2;exact⟨_,by simp[aH,H],⟨b',rfl,x.oQ⟩,br _ _⟩
   |11,_=>
    cases R;obtain⟨b',H,f⟩:=Zq j 9;have x:=aI f;clear j f;simp only[aD,Act.put,H];gi_wp2;exact⟨_,by simp[aH,H],rfl,br _ _⟩
   |q+12,h=>omega
  case fin=>
   intro V w8 i hp;have e0:V 0=(E S 0):=hp 0 dz;obtain⟨b',eb,f⟩:=hp 10 dz;have ec:V 11=I c:=hp 11 dz;have K:=d.zL i;have B:=aI (y.oQ.trans (aU.below i));have x:=aI f;clear hp i f;simp only[lds,ldz,aD,Act.put];rw[e0,eb,ec];clear e0 eb ec;generalize V=V;gi_wp2_with fail;refine tqx ?_;refine(cw.2 (uO F S w8 _ b _ K W1.heap.size d.fit.1 d.fit.2 _ b' x.oQ c O P)).mono ?_;rintro e w9 ⟨⟨⟨F9,b9,v9,L,J⟩,rfl⟩,N⟩;have zd:=aI L;have zc:Hid (∀k,F9 k->F k∨w.heap.size<=k):=λk Z=>(J k Z).elim .inl (λh=>.inr (nlt y.oQ.size h));have za:Hid (aU F w w9):=B.oQ.trans (N.wide (λk e=>by rw[e];exact d.fS));clear L N B x K J;gi_wp2_with fail;go_wp2;go_ret;exact .inr ⟨⟨F9,b9,v9,by rw[W.oQ];exact zd.oQ,zc.oQ⟩,by rw[W.oQ];rfl,za.oQ⟩
 ·have W:Hid (rW s a=(s,dR)):=BR hl;have hl':((ln a:Int)==1)=false:=by rw[bfn];omega
  clear hl;go_enter Tryz.func37,Tryz.ntmps37;go_wp2_with (go_at_call 45;refine(jU _).mono ?_;rintro e w' ⟨rfl,rfl⟩);exact⟨rfl,.inl ⟨W.oQ,rfl,br _ _⟩⟩
variable {a:List Ba}{x:Int}
theorem NS (h:¬(ln a)=1):mZ s a=(s,dR):=ET (λg=>h g.1)
def IT2 (S:Nat)(b:Bk)(vw:Value)(bl off:Nat)(nm:ByteArray)(x:Int)(s':Bk)(c:Int)(Z:Nat)(j:Nat)(v:Value)(w:World):Prop:=
 match j with
 |0|1|2|3=>v=(E S 0)
 |4=>v=b.val
 |5=>v=vw
 |6=>v=(E bl off)
 |7=>v=.string nm
 |8=>v=I x/\0<=x
 |9=>∃b':Bk,v=.tuple #[b'.val,I c]/\eI (λk=>k<Z) w s' b'
 |10=>∃b':Bk,v=b'.val/\eI (λk=>k<Z) w s' b'
 |11=>v=I c
 |_=>True
theorem IT2.zL (j:Nat)(v:Va)(w w':Wd)(d:IT2 S b g e n nm x f c Z j v w)(k:aG w w'):IT2 S b g e n nm x f c Z j v w':=by
 unfold IT2 at*;split at d
 all_goals first
  |exact d
  |(obtain⟨b',h,i⟩:=d;exact⟨b',h,i.zL k⟩)
theorem U9 (F:Nat->Prop)(S:Nat)(w:Wd)(s:St)(b:Bk)(v:Va)(p:lH F S w s b v)(kk:Nat)(zc:jF kk s)(a:List Ba)(ao:Oa)(D:Nat)(hX:Xs 1 eE w ao a):
 aW 40 #[E S 0,.slice ao (ln a) D] w λe w'=>XT F S w s (mZ s a) e w':=by
 by_cases T:ln a=1
 ·obtain⟨nm,rfl⟩:∃nm,a=[nm]:=leo.1 T;rcases hX with h|⟨bl,r,rfl,O⟩;·cases h
  have c1:w.cell? (Y bl r)=some (.string nm):=by have:=O 0 sm 0 _ rfl;simpa using this
  clear T O;obtain⟨x,hx⟩:=cI (aV nm);have C:=aI hx;have A:Hid (x=-1->mZ s [nm]=(s,dR)):=λh=>by rw[mZ,hx,if_neg om]
  have X:Hid (0<=x->mZ s [nm]=(⟨dN s.b (fK s.b x) (eU s.b x),s.t⟩,jC (cX s.b x))):=λh=>by rw[mZ,hx,if_pos h]
  clear hx;obtain⟨M,N⟩:=AK s.b x;obtain⟨c,i⟩:=cI (cX s.b x);have m:Hid (0<=x->mZ s [nm]=(⟨dN s.b (fK s.b x) (eU s.b x),s.t⟩,jC c)):=by rw[←i];exact X.oQ
  rw[i]at M N;have V:=aI i;have B:Hid (aU F w w):=aU.refl _ _;clear i;go_enter Tryz.func40,Tryz.ntmps40;go_wp2_with (go_at_call 45;refine(gQ _).mono ?_;rintro e w' ⟨⟨u,rfl⟩,Q⟩;rw[Q];clear Q);refine pG 12 [some 9,some 10,some 11,some 12,some 13,some 14,some 15,some 16,some 17,some 18,some 19,some 20] (IT2 S b (sl bl r 1 D) bl r nm x (dN s.b (fK s.b x) (eU s.b x)) c w.heap.size) IT2.zL ?step ?fin
  case step=>
   intro ii o R w' zb y g d;obtain⟨z0z,z1z,z2z,z3z⟩:=(p.zL g).c;have z4z:=ctq g c1;match ii,zb with
   |2,_|3,_|4,_|6,_|7,_=>
    cases y;simp[Region.binds,IT2]at d;simp only[aD,Act.put,d];gi_wp2;exact⟨_,by simp[aH,d],rfl,br _ _⟩
   |0,_|1,_|5,_=>
    cases y;gi_wp2;exact⟨_,uhx,rfl,br _ _⟩
   |8,_=>
    cases y;simp[Region.binds,IT2]at d;simp only[aD,Act.put,d];gi_wp2_with fail;refine tqx ?_;refine(cw.2 (pZ nm w')).mono ?_;rintro e w5 ⟨⟨h0,rfl⟩|⟨h1,rfl⟩,j⟩
    ·rw[C.oQ]at h0 ⊢;rw[j];clear j;gi_wp2;exact⟨_,by simp[aH,d],⟨rfl,h0⟩,br _ _⟩
    ·have HZ:Hid (mZ s [nm]=(s,dR)):=A.oQ (by rw[←C.oQ];exact h1);rw[j];clear j h1;gi_wp2;exact⟨rfl,.inl ⟨HZ.oQ,rfl,g⟩⟩
   |9,_=>
    cases y;simp[Region.binds,IT2]at d;simp only[aD,Act.put,d];gi_wp2_with fail;refine tqx ?_;refine(cw.2 (UK (S':=λk=>k<w.heap.size) (p.e.zL g).l (p.zL g).b zc.b x (λk e=>nll e g.size))).mono ?_;rintro e w5 ⟨⟨b',rfl,f⟩,za⟩;have n:=aI f;clear f;rw[V.oQ];gi_wp2;exact⟨_,by simp[aH,d],⟨b',rfl,n.oQ⟩,za⟩
   |10,_=>
    cases y;obtain⟨b',G,f⟩:=Zq d 9;have n:=aI f;clear d f;simp only[aD,Act.put,G];gi_wp2;exact⟨_,by simp[aH,G],⟨b',rfl,n.oQ⟩,br _ _⟩
   |11,_=>
    cases y;obtain⟨b',G,f⟩:=Zq d 9;have n:=aI f;clear d f;simp only[aD,Act.put,G];gi_wp2;exact⟨_,by simp[aH,G],rfl,br _ _⟩
   |q+12,h=>omega
  case fin=>
   intro R w8 g P;have m:=m.oQ (P 8 dz).2;have m:Hid (mZ s [nm]=(⟨dN s.b (fK s.b x) (eU s.b x),s.t⟩,jC c)):=m;have e0:R 0=(E S 0):=P 0 dz;obtain⟨b',eb,f⟩:=P 10 dz;have ec:R 11=I c:=P 11 dz;have J:=p.zL g;have z:=aI (B.oQ.trans (aU.below g));have n:=aI f;clear P g f;simp only[lds,ldz,aD,Act.put];rw[e0,eb,ec];clear e0 eb ec;generalize R=R;gi_wp2_with fail;refine tqx ?_;refine(cw.2 (uO F S w8 _ b _ J w.heap.size p.fit.1 p.fit.2 _ b' n.oQ c M N)).mono ?_;rintro e w9 ⟨⟨⟨F9,b9,v9,K,H⟩,rfl⟩,L⟩;have Z:=aI K;have W:Hid (∀k,F9 k->F k∨w.heap.size<=k):=λk hk=>(H k hk).elim .inl (λh=>.inr (nlt B.oQ.size h));have U:Hid (aU F w w9):=z.oQ.trans (L.wide (λk e=>by rw[e];exact p.fS));clear K L z n J H;gi_wp2_with fail;go_wp2;go_ret;exact .inr ⟨⟨F9,b9,v9,by rw[m.oQ];exact Z.oQ,W.oQ⟩,by rw[m.oQ];rfl,U.oQ⟩
 ·have m:Hid (mZ s a=(s,dR)):=NS T;have hl':((ln a:Int)==1)=false:=by rw[bfn];omega
  clear T;go_enter Tryz.func40,Tryz.ntmps40;go_wp2_with (go_at_call 45;refine(jU _).mono ?_;rintro e w' ⟨rfl,rfl⟩);exact⟨rfl,.inl ⟨m.oQ,rfl,br _ _⟩⟩
theorem aAD (k:Ba)(l:Array UInt8):(k==⟨l⟩)=decide (k.toList=l.toList):=by
 rw[ByteArray.toList_eq];show(k.data==l)=_;rw[beii];simp[←Array.toList_inj]
theorem XQ {α:Type}(a:Array α)(x y:α):(a.push x).setIfInBounds a.size y=a.push y:=by
 apply Array.ext';simp
def zJ (k:ByteArray):Option Nat:=
 if k.toList=pV then some 34 else if k.toList=vU then some 35 else if k.toList=JD then some 36 else if k.toList=pJ then some 37 else if k.toList=uZ then some 38 else if k.toList=GH then some 39 else if k.toList=wB then some 40 else if k.toList=wT then some 41 else if k.toList=vI then some 42 else none
abbrev eW (S f:Nat):Value:=.func (.func f) #[E S 0] #[]
def EP (S:Nat):Array MapEntry:=#[⟨.string ⟨#[102,105,101,108,100]⟩,eW S 34,0⟩,⟨.string ⟨#[119,105,115,104]⟩,eW S 35,1⟩,⟨.string ⟨#[98,111,120]⟩,eW S 36,2⟩,⟨.string ⟨#[97,109,101,110,100]⟩,eW S 37,3⟩,⟨.string ⟨#[116,111,111,107]⟩,eW S 38,4⟩,⟨.string ⟨#[114,101,102,117,115,101,100]⟩,eW S 39,5⟩,⟨.string ⟨#[116,105,99,107]⟩,eW S 40,6⟩,⟨.string ⟨#[98,97,114,115]⟩,eW S 41,7⟩,⟨.string ⟨#[104,101,108,100]⟩,eW S 42,8⟩]
theorem MY (a:Bool)(k:Ba)(w:Wd):(Instr.checkKey a 10000 9 (.string k)).run prog w=.ok () w:=by
 rw[show(10000:Nat)=9999+1 from rfl,Instr.checkKey];simp[Sem.run_bind,run_underlying underlying9,Result.andThen_ok]
theorem nF (w:Wd)(a:Array MapEntry)(c:Nat)(k:Ba)(v:Va)(h:Instr.findNow .string (.string k) a.toList 0=some none):
 (Instr.mapUpdate 56 (.map (some w.heap.size)) (.string k) v).run prog (w.alloc (.map a c))=.ok () (w.alloc (.map (a.push ⟨.string k,v,c⟩) (c+1))):=by
 have b:=wnq w (.map a c)
 have e:{ w.alloc (.map a c)with heap:=(w.alloc (.map a c)).heap.setIfInBounds w.heap.size (.map (a.push ⟨.string k,v,c⟩) (c+1))}=w.alloc (.map (a.push ⟨.string k,v,c⟩) (c+1)):=by
  simp only[World.alloc];rw[XQ]
 rw[←e];obtain⟨r,g⟩:=cI w.heap.size;rw[g]at b ⊢;obtain⟨W,d⟩:=cI (w.alloc (.map a c));rw[d]at b ⊢;have f:(getObj r).run prog W=.ok (.map a c) W:=by simp[getObj,Sem.run,b]
 unfold Instr.mapUpdate Instr.findKey;simp only[Sem.run_bind,run_underlying underlying56,run_underlying underlying9,Result.andThen_ok,f,MY,h,Sem.run_pure];simp[setObj,Sem.run,b]
theorem Y1 (S:Nat)(k:Ba):∃i,Instr.findNow .string (.string k) (EP S).toList 0=some ((zJ k).map λf=>(i,eW S f)):=by
 unfold zJ;simp only[EP,Instr.findNow,Instr.sameNow,aAD];by_cases a:k.toList=pV;·exact⟨0,by simp[a]⟩
 by_cases b:k.toList=vU;·exact⟨1,by simp[b]⟩
 by_cases c:k.toList=JD;·exact⟨2,by simp[c]⟩
 by_cases d:k.toList=pJ;·exact⟨3,by simp[d]⟩
 by_cases e:k.toList=uZ;·exact⟨4,by simp[e]⟩
 by_cases g:k.toList=GH;·exact⟨5,by simp[g]⟩
 by_cases h:k.toList=wB;·exact⟨6,by simp[h]⟩
 by_cases j:k.toList=wT;·exact⟨7,by simp[j]⟩
 by_cases l:k.toList=vI;·exact⟨8,by simp[l]⟩
 exact⟨0,by simp[a,b,c,d,e,g,h,j,l]⟩
theorem aAL (S r c:Nat)(k:Ba)(w:Wd)(d:w.heap[r]?=some (.map (EP S) c)):
 (Instr.lookup 56 (.map (some r)) (.string k) true).run prog w=.ok (.tuple #[((zJ k).map (eW S)).getD .nilFunc,.bool (zJ k).isSome]) w:=by
 obtain⟨i,a⟩:=Y1 S k;have b:(getObj r).run prog w=.ok (.map (EP S) c) w:=by simp[getObj,Sem.run,d]
 have e:(zeroValue 96).run prog w=.ok .nilFunc w:=by go_simp
 unfold Instr.lookup Instr.findKey;simp only[Sem.run_bind,run_underlying underlying56,run_underlying underlying9,Result.andThen_ok,b,MY,Sem.run_pure,a];cases zJ k with
 |none=>simp[e]
 |some f=>simp
theorem ID (S:Nat)(w:Wd):
 aW 18 #[E S 0] w λe w'=>e=rt (.map (some w.heap.size))/\w'=w.alloc (.map (EP S) 9):=by
 have hmk:(Instr.makeMap 56 none).run prog w=.ok (.map (some w.heap.size)) (w.alloc (.map #[] 0)):=rfl;have a:=nF w #[] 0 ⟨#[102,105,101,108,100]⟩ (eW S 34) rfl;have b:=nF w #[⟨.string ⟨#[102,105,101,108,100]⟩,eW S 34,0⟩] 1 ⟨#[119,105,115,104]⟩ (eW S 35) rfl;have c:=nF w #[⟨.string ⟨#[102,105,101,108,100]⟩,eW S 34,0⟩,⟨.string ⟨#[119,105,115,104]⟩,eW S 35,1⟩] 2 ⟨#[98,111,120]⟩ (eW S 36) rfl;have d:=nF w #[⟨.string ⟨#[102,105,101,108,100]⟩,eW S 34,0⟩,⟨.string ⟨#[119,105,115,104]⟩,eW S 35,1⟩,⟨.string ⟨#[98,111,120]⟩,eW S 36,2⟩] 3 ⟨#[97,109,101,110,100]⟩ (eW S 37) rfl;have f:=nF w #[⟨.string ⟨#[102,105,101,108,100]⟩,eW S 34,0⟩,⟨.string ⟨#[119,105,115,104]⟩,eW S 35,1⟩,⟨.string ⟨#[98,111,120]⟩,eW S 36,2⟩,⟨.string ⟨#[97,109,101,110,100]⟩,eW S 37,3⟩] 4 ⟨#[116,111,111,107]⟩ (eW S 38) rfl;have g:=nF w #[⟨.string ⟨#[102,105,101,108,100]⟩,eW S 34,0⟩,⟨.string ⟨#[119,105,115,104]⟩,eW S 35,1⟩,⟨.string ⟨#[98,111,120]⟩,eW S 36,2⟩,⟨.string ⟨#[97,109,101,110,100]⟩,eW S 37,3⟩,⟨.string ⟨#[116,111,111,107]⟩,eW S 38,4⟩] 5 ⟨#[114,101,102,117,115,101,100]⟩ (eW S 39) rfl;have h:=nF w #[⟨.string ⟨#[102,105,101,108,100]⟩,eW S 34,0⟩,⟨.string ⟨#[119,105,115,104]⟩,eW S 35,1⟩,⟨.string ⟨#[98,111,120]⟩,eW S 36,2⟩,⟨.string ⟨#[97,109,101,110,100]⟩,eW S 37,3⟩,⟨.string ⟨#[116,111,111,107]⟩,eW S 38,4⟩,⟨.string ⟨#[114,101,102,117,115,101,100]⟩,eW S 39,5⟩] 6 ⟨#[116,105,99,107]⟩ (eW S 40) rfl;have i:=nF w #[⟨.string ⟨#[102,105,101,108,100]⟩,eW S 34,0⟩,⟨.string ⟨#[119,105,115,104]⟩,eW S 35,1⟩,⟨.string ⟨#[98,111,120]⟩,eW S 36,2⟩,⟨.string ⟨#[97,109,101,110,100]⟩,eW S 37,3⟩,⟨.string ⟨#[116,111,111,107]⟩,eW S 38,4⟩,⟨.string ⟨#[114,101,102,117,115,101,100]⟩,eW S 39,5⟩,⟨.string ⟨#[116,105,99,107]⟩,eW S 40,6⟩] 7 ⟨#[98,97,114,115]⟩ (eW S 41) rfl;have j:=nF w #[⟨.string ⟨#[102,105,101,108,100]⟩,eW S 34,0⟩,⟨.string ⟨#[119,105,115,104]⟩,eW S 35,1⟩,⟨.string ⟨#[98,111,120]⟩,eW S 36,2⟩,⟨.string ⟨#[97,109,101,110,100]⟩,eW S 37,3⟩,⟨.string ⟨#[116,111,111,107]⟩,eW S 38,4⟩,⟨.string ⟨#[114,101,102,117,115,101,100]⟩,eW S 39,5⟩,⟨.string ⟨#[116,105,99,107]⟩,eW S 40,6⟩,⟨.string ⟨#[98,97,114,115]⟩,eW S 41,7⟩] 8 ⟨#[104,101,108,100]⟩ (eW S 42) rfl;simp only[lpt,lca,lna,Nat.reduceAdd,eW]at a b c d f g h i j;go_enter func18,ntmps18;go_wp2;go_ret;exact⟨rfl,rfl⟩
variable {S:Nat → Prop}{s:Bk}{x d X:Wx}{B r i g D t:Nat}{k:St}{G W:Va}{l o:List Int}{m Q q:List Ba}{C:Ba}{u y z A J:Int}{K:List (List Cx)}
theorem UJ (l:3<w.heap.size)(u:l8 w)(h:eI S w s b)(m:aO s=true)(hx:iL w d)(y:rK x d):
 aW 77 #[b.val,d.val] w λe w'=>(∃b',e=rt (.tuple #[Bk.val b',iA s (decide (0<=kK s.hl x.n)) x,I (dF s x)])/\K8 s.now s.fl (eY s x) b'/\dS w.heap.size w' b')/\aG w w':=by
 have ha:=h.asks m;refine(IM b d w l u ha.hf ha.hnf ha.hcap ha.hc2 ha.hs ha.hh ha.hnh ha.hgood hx).mono ?_;rintro e w' ⟨t,j⟩;refine⟨?_,j⟩;obtain⟨z,A,o⟩:=FV (b:=s) (b1:=b) h.c.now h.c.fl h.c.lk d;obtain⟨B,C,D⟩:=FT y s;rcases t with⟨a,_⟩|⟨a,b1,i,f,g,c,k,⟨rfl,p,q,r⟩,rfl,v⟩;·rw[h.book,m]at a;cases a
 ·obtain⟨q1,F,G⟩:=UM d a k;exact⟨g,by rw[q1,F,z,A,B,C],⟨(p.trans k.now).trans h.c.now,(q.trans k.fl).trans h.c.fl,by rw[D]at o;exact(o.trans G).trans r⟩,v.spS⟩
theorem lH.same (h:lH F n w k b v):lH F n w ⟨dN k.b k.b.now k.b.hl,k.t⟩ b v:=⟨h.o,h.h,⟨h.b.c,h.b.i,h.b.f1,h.b.f2⟩,h.fS,h.fh,h.fl,h.e⟩
theorem FL (b:n=ln l)(h:w.ownsRow B 3 1 v n (l.map (Value.int .i64))):∃a c,v=.slice a (ln l) c/\∀w',KpW w w'->Xs 1 dV w' a l:=by
 obtain⟨a,c,e,_⟩:=pW b h;refine⟨a,c,e,λw' i=>?_⟩;obtain⟨a',c',f,hx⟩:=pW b (jI h (λk d _ g=>i k d _ (.inr (.inr rfl)) g));cases e.symm.trans f;exact hx
theorem ws8 (h:8<=ln m):∃nm q c f a l b y e,m=nm::q::c::f::a::l::b::y::e:=by
 match m,h with
 |nm::q::c::f::a::l::b::y::e,_=>exact⟨nm,q,c,f,a,l,b,y,e,rfl⟩
theorem xR {s:St}(h:¬8<=ln m):k8 s m=(s,dR):=by
 unfold k8;split;·exact absurd sm h
 ·rfl
def IS3 (vw vn:Value)(bl off g oo:Nat)(nm lv:ByteArray)(i1 i2 i3 i4 i5:Int)(Q:List ByteArray)(NL:List Int)(YY:List ByteArray)(cy:Nat)(cs:List (List Cx))(X:Wx)(GL GW:Prop)(Z:Nat)(j:Nat)(v:Value)(w:World):Prop:=
 match j with
 |0|18|23=>v=vw
 |3|6|9|12|15=>v=vn
 |1=>v=(E bl off)
 |2=>v=.string nm
 |4=>v=(E g oo)
 |5=>v=I i1
 |7=>v=(E g (oo+1))
 |8=>v=I i2
 |10=>v=(E g (oo+2))
 |11=>v=I i3
 |13=>v=(E g (oo+3))
 |14=>v=I i4
 |16=>v=(E g (oo+4))
 |17=>v=I i5
 |19=>v=(E bl (off+6))
 |20=>v=.string lv
 |21=>∃p,v=.slice (some (Y p 0)) Q.length Q.length/\Xs 1 eE w (some (Y p 0)) Q
 |22=>(∃a c,v=.slice a NL.length c/\∀w',KpW w w'->Xs 1 dV w' a NL)/\GL
 |24=>v=.slice (some (Y bl (off+7))) YY.length cy
 |25=>AS w v cs/\GW
 |26=>(∃x:Wx,v=x.val/\(∀w',KpW w w'->iL w' x)/\rK X x)/\GL/\GW
 |27=>∃p,v=(E p 0)/\Z<=p/\w.heap[p]?=some (.cells #[.string ⟨#[]⟩,I 0,I 0,I 0,I 0,I 0,ms,ms] 40)
 |_=>True
theorem IS3.zL {m n:Prop}(j:Nat)(v:Va)(w w':Wd)(b:IS3 G W r i g D nm C u y z A J Q o q t K X m n Z j v w)(h:aG w w'):IS3 G W r i g D nm C u y z A J Q o q t K X m n Z j v w':=by
 unfold IS3 at*;split at b
 all_goals first
  |exact b
  |(obtain⟨p,d,e⟩:=b;exact⟨p,d,e.zL h⟩)
  |(obtain⟨⟨a,c,d,e⟩,f⟩:=b;exact⟨⟨a,c,d,λl k=>e l (k.from h)⟩,f⟩)
  |(exact⟨b.1.zL h,b.2⟩)
  |(obtain⟨⟨x,d,e,H⟩,f⟩:=b;exact⟨⟨x,d,λl k=>e l (k.from h),H⟩,f⟩)
  |(obtain⟨p,d,e,f⟩:=b;exact⟨p,d,e,bJ f h⟩)
def NB (S:Nat)(b:Bk)(x:Wx)(s':Bk)(d i k c:Int)(Z:Nat)(j:Nat)(vs:Nat->Value)(w:World):Prop:=
 match j with
 |0=>vs 0=(E S 0)
 |1=>vs 1=(E S 0)
 |2=>vs 2=(E S 0)
 |3=>vs 3=b.val
 |4=>vs 4=x.val
 |5=>∃b':Bk,vs 5=.tuple #[b'.val,gF d i k,I c]/\K8 s'.now s'.fl s'.hl b'/\dS Z w b'
 |6=>∃b':Bk,vs 6=.tuple #[b'.val,gF d i k,I c]/\K8 s'.now s'.fl s'.hl b'/\dS Z w b'
 |7=>∃b':Bk,vs 6=.tuple #[b'.val,gF d i k,I c]/\vs 7=b'.val/\K8 s'.now s'.fl s'.hl b'/\dS Z w b'
 |8=>vs 8=gF d i k
 |9=>vs 9=I c
 |10=>∃p,vs 10=(E p 0)/\Z<=p/\w.heap[p]?=some (zo)
 |11=>∃p,vs 11=(E p 0)/\Z<=p/\w.heap[p]?=some (.cells #[I 0,I 0,I 0] 79)
 |_=>True
theorem NB.zL (j:Nat)(m:Nat->Va)(w w':Wd)(h:NB B b x s u y z A Z j m w)(g:aG w w'):NB B b x s u y z A Z j m w':=by
 unfold NB at*;split at h
 all_goals first
  |exact h
  |(obtain⟨b',a,e,f⟩:=h;exact⟨b',a,e,f.zL g⟩)
  |(obtain⟨b',a,e,f,n⟩:=h;exact⟨b',a,e,f,n.zL g⟩)
  |(obtain⟨p,a,e,f⟩:=h;exact⟨p,a,e,bJ f g⟩)
def ZF (j:Nat):List Nat:=if j=7 then[7,6]else[j]
def YD (j:Nat):Bool:=j==8||j==9
theorem NB.loc (j:Nat)(f a:Nat->Va)(w:Wd)(g:∀q∈ZF j,f q=a q)(h:NB n b x s u y z A Z j f w):NB n b x s u y z A Z j a w:=by
 have e:f j=a j:=g j (by unfold ZF;split<;>simp_all);unfold NB at*;split at h
 all_goals first
  |(rw[←e];exact h)
  |(rw[←e,←g 6 (by simp[ZF])];exact h)
  |trivial
def PfI4 (d i k c:Int)(j:Nat)(v:Value):Prop:=if j=8 then v=gF d i k else v=I c
theorem NB.free (j:Nat)(e:Nat->Va)(w:Wd)(a:YD j=true)(h:NB n b x s u y z A Z j e w):PfI4 u y z A j (e j):=by
 simp[YD]at a;rcases a with rfl|rfl<;>exact h
structure GI4 (W:World)(s':Bk)(d i k c:Int)(t:Nat)(vs:Nat->Value)(w':World)(b':Bk)(p q:Nat):Prop where
 tt:vs 6=.tuple #[b'.val,gF d i k,.int .i64 c]
 v:vs 7=b'.val
 vp:vs 10=.pointer (some ⟨p,0,none⟩)
 vq:vs 11=.pointer (some ⟨q,0,none⟩)
 bel:aG W w'
 cnt:K8 s'.now s'.fl s'.hl b'
 sp:dS W.heap.size w' b'
 zp:W.heap.size<=p
 zq:W.heap.size<=q
 p0:t=12->w'.heap[p]?=some (.cells #[.int .i64 0,.slice none 0 0,.slice none 0 0] 32)
 p1:12<t->w'.heap[p]?=some b'.obj
 q0:t<=13->w'.heap[q]?=some (.cells #[.int .i64 0,.int .i64 0,.int .i64 0] 79)
 q1:13<t->w'.heap[q]?=some (jE d i k)
def GI4e (W:World)(s':Bk)(d i k c:Int)(t:Nat)(vs:Nat->Value)(w':World):Prop:=∃b' p q,GI4 W s' d i k c t vs w' b' p q
theorem UY (F:Nat->Prop)(S:Nat)(w:Wd)(s:St)(b:Bk)(v:Va)(hS:lH F S w s b v)(kk:Nat)(kv:jF kk s)(a:List Ba)(ao:Oa)(zf:Nat)(hX:Xs 1 eE w ao a)(je:ln a<=zf)(ji:ln a<=1048570)(yw:∀x∈a,x.size<=1048575):
 aW 35 #[E S 0,.slice ao (ln a) zf] w λe w'=>XT F S w s (k8 s a) e w':=by
 by_cases hl:8<=ln a
 ·obtain⟨nm,q,yb,f,bb,l,lv,y,ys,P⟩:=ws8 hl
  obtain⟨bl,M,rfl⟩:∃bl M,ao=some (Y bl M):=by
   rcases hX with h|⟨bl,M,e,_⟩;·rw[h]at hl;simp at hl
   ·exact⟨bl,M,e⟩
  have jc:Xs 1 eE w (some (Y bl (M+1))) [q,yb,f,bb,l]:=jN hX 1 [nm] _ (lv::y::ys) (by rw[P];rfl) rfl;have yr:Xs 1 eE w (some (Y bl (M+7))) (y::ys):=jN hX 7 [nm,q,yb,f,bb,l,lv] _ [] (by rw[P];simp) rfl;have c0:=iC hX 0 nm (by rw[P];rfl);rw[naz]at c0;have c6:=iC hX 6 lv (by rw[P];rfl);have hlv:lv.size<=1048575:=yw lv (by rw[P];simp);have hnm:nm.size<=1048575:=yw nm (by rw[P];simp);have jr:∀x∈y::ys,x.size<=1048575:=λx hx=>yw x (by rw[P];exact List.mem_append_right [nm,q,yb,f,bb,l,lv] hx);have G:Hid (k8 s a=if j7 [q,yb,f,bb,l]&&j7 (bG 44 lv)then(match fV (y::ys)with|some cs=>oI s (wL nm q yb f bb l (bG 44 lv) cs)|none=>(s,dR))else(s,dR)):=by rw[P];rfl
  obtain⟨YY,xz⟩:=bQ (y::ys);have hm:ln a=ln YY+7:=by rw[P,xz];simp
  rw[←xz]at yr jr G;obtain⟨m,jj⟩:=bQ (ln a);rw[←jj]at hm je ji hl ⊢;have kj:Hid (ln YY<=1048576):=by rw[Hid];omega
  have hm7:m-7=ln YY:=om;have qm:Hid (ln YY+7<=1048570):=by rw[Hid];omega
  have ku:decide ((8:Int)<=(m:Int))=true:=by rw[dte];omega
  clear P xz hX yw jj hm y ys;have yv:ln (bG 44 lv)<=1048576:=by have:=kU 44 lv;omega
  go_enter Tryz.func35,Tryz.ntmps35;go_wp2_with (go_at_call 45;refine(gQ _).mono ?_;rintro e w' ⟨⟨u,rfl⟩,jp⟩;rw[jp];clear jp);go_wp2_with fail;refine(kE [q,yb,f,bb,l] (some (Y bl (M+1))) _ w jc sm).mono ?_;rintro e w2 ⟨⟨xe,v2,rfl,jl⟩|⟨H,rfl⟩,Z⟩
  ·have zi:j7 [q,yb,f,bb,l]=true:=pY xe;obtain⟨a5,c5,rfl,zz⟩:=pW (eN _).symm jl;rcases zz with h|⟨g,oo,rfl,zg⟩;·simp[aS]at h
   have j0:w2.cell? (Y g oo)=some (I (aV q)):=by have:=zg 0 (by simp[aS]) 0 _ rfl;simpa[aS]using this
   have j1:w2.cell? (Y g (oo+1))=some (I (aV yb)):=by have:=zg 1 (by simp[aS]) 0 _ rfl;simpa[aS]using this
   have j2:w2.cell? (Y g (oo+2))=some (I (aV f)):=by have:=zg 2 (by simp[aS]) 0 _ rfl;simpa[aS]using this
   have j3:w2.cell? (Y g (oo+3))=some (I (aV bb)):=by have:=zg 3 (by simp[aS]) 0 _ rfl;simpa[aS]using this
   have j4:w2.cell? (Y g (oo+4))=some (I (aV l)):=by have:=zg 4 (by simp[aS]) 0 _ rfl;simpa[aS]using this
   have e5:ln (aS [q,yb,f,bb,l])=5:=rfl;rw[e5];obtain⟨Q,hQ⟩:=bQ (bG 44 lv);obtain⟨cs,jf⟩:=bQ ((fV YY).getD []);obtain⟨X,xy⟩:=bQ (wL nm q yb f bb l Q cs);obtain⟨NL,yq⟩:=bQ (aS Q);rw[←hQ]at G yv;rw[zi]at G;have jk:ln NL<=1048576:=by rw[yq,eN];exact yv
   obtain⟨i1,xr⟩:∃i,i=aV q:=⟨_,rfl⟩;rw[←xr]at j0;obtain⟨i2,xs⟩:∃i,i=aV yb:=⟨_,rfl⟩;rw[←xs]at j1;obtain⟨i3,xt⟩:∃i,i=aV f:=⟨_,rfl⟩;rw[←xt]at j2;obtain⟨i4,xu⟩:∃i,i=aV bb:=⟨_,rfl⟩;rw[←xu]at j3;obtain⟨i5,xv⟩:∃i,i=aV l:=⟨_,rfl⟩;rw[←xv]at j4
   have yz:Hid (∀(wa:Oa) (wl:List Yx) (wc:Nat) (la:Oa) (lc:Nat),wl.map Yx.l=cs->rK X ⟨nm,i1,i2,i3,i4,i5,wa,wl,wc,la,NL,lc⟩):=λwa wl wc la lc h=>by
    rw[xy,xr,xs,xt,xu,xv,yq];exact AW h
   have yy:Hid (fV YY=some cs->∀(W:Wd) (wa:Oa) (wl:List Yx) (wc:Nat) (la:Oa) (lc:Nat),wl.map Yx.l=cs->Xs 1 Yx.cells W wa wl->(∀y∈wl,y.In W)->(∀y∈wl,ln y.l<=y.c/\y.c<=9223372036854775807)->Xs 1 dV W la NL->iL W ⟨nm,i1,i2,i3,i4,i5,wa,wl,wc,la,NL,lc⟩):=λkw W wa wl wc la lc zk ky kx yx kz=>by
    obtain⟨hwn,va⟩:=AQ YY [[]] cs 1 0 kw sm sm;have:=qm.oQ;refine⟨⟨ky,kx,kz⟩,⟨?_,λy m=>?_,jk,?_⟩,yx⟩
    ·show(ln wl)<=1048576;have:ln wl=ln cs:=by rw[←zk,List.length_map]
     omega
    ·have:=va y.l (by rw[←zk];exact List.mem_map_of_mem m);omega
    ·show nm.size<=_;omega
   have qj:Hid (j7 Q=true->fV YY=some cs->k8 s a=oI s X):=λh1 h2=>by rw[G.oQ,h1,h2,xy];rfl
   have qh:Hid (j7 Q=false->k8 s a=(s,dR)):=λh=>by rw[G.oQ,h];rfl
   have qi:Hid (fV YY=none->k8 s a=(s,dR)):=λh=>by rw[G.oQ,h];split<;>rfl
   obtain⟨GL,V⟩:∃GL:Prop,GL=(j7 Q=true):=⟨_,rfl⟩;obtain⟨GW,R⟩:∃GW:Prop,GW=(fV YY=some cs):=⟨_,rfl⟩;have xi:Hid (GL↔j7 Q=true):=by rw[Hid,V]
   have yd:Hid (GW↔fV YY=some cs):=by rw[Hid,R]
   have HQ:=aI hQ.symm;have qk:=aI yq.symm;have xh:=aI jf.symm;have ka:=aI yv;have zb:=aI Z;replace hS:=hS.zL Z;replace c0:=ctq Z c0;replace c6:=ctq Z c6;replace yr:=yr.zL Z;clear xe jl Z zi zg e5 hQ jf xy yq V R xr xs xt xu xv G yv jc qm jk;go_upto_region 3 with fail;refine pG 28 [some 17,some 18,some 19,some 20,some 21,some 22,some 23,some 24,some 25,some 26,some 27,some 28,some 29,some 30,some 31,some 32,some 33,some 34,some 35,some 36,some 37,some 38,some 39,some 40,some 41,some 42,some 43,some 6] (IS3 (sl bl M m zf) (sl g oo 5 c5) bl M g oo nm lv i1 i2 i3 i4 i5 Q NL YY (zf-7) cs X GL GW w2.heap.size) IS3.zL ?step ?fin
   case step=>
    intro ii o K w' zh C A z;have js:=ctq A c0;have z6z:=ctq A c6;have j0j:=ctq A j0;have j1j:=ctq A j1;have j2j:=ctq A j2;have j3j:=ctq A j3;have j4j:=ctq A j4;match ii,zh with
    |1,_|2,_|4,_|5,_|7,_|8,_|10,_|11,_|13,_|14,_|16,_|17,_|19,_|20,_|24,_=>
     cases C;simp[Region.binds,IS3]at z;simp only[aD,Act.put,z];gi_wp2;exact⟨_,by simp[aH,z],rfl,br _ _⟩
    |0,_|3,_|6,_|9,_|12,_|15,_|18,_|23,_=>
     cases C;gi_wp2;exact⟨_,uhx,rfl,br _ _⟩
    |21,_=>
     cases C;simp[Region.binds,IS3]at z;simp only[aD,Act.put,z];gi_wp2_with fail;refine tqx ?_;refine(cw.2 (IL lv 44 w' (hS.e.zL A) om)).mono ?_;rintro e w5 ⟨⟨rfl,zz⟩,B⟩;rw[show(((44:UInt8).toNat:Nat):Int)=44 from rfl,HQ.oQ]at zz ⊢;have kh:=aI zz;clear zz;gi_wp2;exact⟨_,by simp[aH,z],⟨_,rfl,kh.oQ⟩,B⟩
    |22,_=>
     cases C;obtain⟨p,qr,hx⟩:=Zq z 21;clear z;simp only[aD,Act.put,qr];gi_wp2_with fail;refine tqx ?_;refine(cw.2 (kE Q (some (Y p 0)) (ln Q) w' hx ka.oQ)).mono ?_;rintro e w5 ⟨⟨xf,v5,rfl,jm⟩|⟨H,rfl⟩,B⟩
     ·have HG:Hid GL:=xi.oQ.2 (pY xf);obtain⟨a5,qn,e5,zi⟩:=FL (eN Q).symm jm;rw[qk.oQ]at e5 zi;subst e5;have jz:=aI zi;clear zi jm xf hx;gi_wp2;exact⟨.slice a5 (ln NL) qn,by simp[aH,qr],⟨⟨a5,qn,rfl,jz.oQ⟩,HG.oQ⟩,B⟩
     ·have HZ:=aI (qh.oQ (sA H));have xk:=aI (aE (aE zb.oQ A) B);clear H B hx;gi_wp2;exact⟨rfl,.inl ⟨HZ.oQ,rfl,xk.oQ⟩⟩
    |25,_=>
     cases C;have qt:K 24=(sl bl (M+7) (ln YY) (zf-7)):=Zq z 24;clear z;simp only[aD,Act.put,qt];gi_wp2_with fail;refine tqx ?_;refine(cw.2 (PT YY (some (Y bl (M+7))) (zf-7) w' (hS.e.zL A) (yr.zL A) kj.oQ jr)).mono ?_;rintro e w5 ⟨⟨kl,ze,v5,rfl,zx⟩|⟨H,rfl⟩,B⟩
     ·have HG:Hid GW:=yd.oQ.2 (by rw[ze,←xh.oQ,ze];rfl)
      have kg:Hid (AS w5 v5 cs):=by
       have e:kl=cs:=by rw[←xh.oQ,ze];rfl
       rw[←e];exact zx
      clear zx ze;gi_wp2;exact⟨_,by simp[aH,qt],⟨kg.oQ,HG.oQ⟩,B⟩
     ·have HZ:=aI (qi.oQ H);have xk:=aI (aE (aE zb.oQ A) B);clear H B;gi_wp2;exact⟨rfl,.inl ⟨HZ.oQ,rfl,xk.oQ⟩⟩
    |26,_=>
     cases C;have d2:K 2=.string nm:=Zq z 2;have d5:K 5=I i1:=Zq z 5;have d8:K 8=I i2:=Zq z 8;have zt:K 11=I i3:=Zq z 11;have qp:K 14=I i4:=Zq z 14;have qq:K 17=I i5:=Zq z 17;obtain⟨⟨la,lc,qs,jh⟩,V⟩:=Zq z 22;obtain⟨zx,R⟩:=Zq z 25;obtain⟨wa,wl,wc,zu,zk,qf,yx⟩:=zx.e;have HG:Hid (GL/\GW):=⟨V,R⟩;have ki:Hid (∃x:Wx,Wx.val ⟨nm,i1,i2,i3,i4,i5,wa,wl,wc,la,NL,lc⟩=x.val/\(∀w2,KpW w' w2->iL w2 x)/\rK X x):=⟨_,rfl,λw2 h2=>yy.oQ (yd.oQ.1 R) w2 wa wl wc la lc zk (qf w2 h2).1 (qf w2 h2).2 yx (jh w2 h2),yz.oQ wa wl wc la lc zk⟩;clear z V R jh zx zk qf yx;simp only[aD,Act.put,d2,d5,d8,zt,qp,qq,qs,zu];gi_wp2;exact⟨_,by simp[aH,d2,d5,d8,zt,qp,qq,qs,zu],⟨ki.oQ,HG.oQ⟩,br _ _⟩
    |27,_=>
     cases C;gi_wp2;exact⟨_,uhx,⟨_,rfl,A.size,wnq w' _⟩,aC (br _ _) _⟩
    |q+28,h=>omega
   case fin=>
    intro K w8 A hp;obtain⟨⟨x,yg,xb,zy⟩,V,R⟩:=hp 26 dz;obtain⟨U,yh,hU,zw⟩:=hp 27 dz;have kb:=aI zy;have ye:=aI (qj.oQ (xi.oQ.1 V) (yd.oQ.1 R));have yu:aU (λr=>r=U) w8 ((((((((w8.setCell (Y U 0) (.string x.n)).setCell (Y U 1) (I x.q)).setCell (Y U 2) (I x.s)).setCell (Y U 3) (I x.f)).setCell (Y U 4) (I x.b)).setCell (Y U 5) (I x.l)).setCell (Y U 6) (.slice x.wa (ln x.wl) x.wc)).setCell (Y U 7) (.slice x.la (ln x.ll) x.lc)):=((((((((aU.refl (λr=>r=U) w8).set (g:=U) rfl _ _).set (g:=U) rfl _ _).set (g:=U) rfl _ _).set (g:=U) rfl _ _).set (g:=U) rfl _ _).set (g:=U) rfl _ _).set (g:=U) rfl _ _).set (g:=U) rfl _ _
    have qg:Hid (iL ((((((((w8.setCell (Y U 0) (.string x.n)).setCell (Y U 1) (I x.q)).setCell (Y U 2) (I x.s)).setCell (Y U 3) (I x.f)).setCell (Y U 4) (I x.b)).setCell (Y U 5) (I x.l)).setCell (Y U 6) (.slice x.wa (ln x.wl) x.wc)).setCell (Y U 7) (.slice x.la (ln x.ll) x.lc)) x):=xb _ (λk c t ht hc=>yu.block k (iB hc) (λe=>by
     have e':k=U:=e;rw[e',zw]at hc;cases hc;simp at ht))
    have xw:((((((((w8.setCell (Y U 0) (.string x.n)).setCell (Y U 1) (I x.q)).setCell (Y U 2) (I x.s)).setCell (Y U 3) (I x.f)).setCell (Y U 4) (I x.b)).setCell (Y U 5) (I x.l)).setCell (Y U 6) (.slice x.wa (ln x.wl) x.wc)).setCell (Y U 7) (.slice x.la (ln x.ll) x.lc)).heap[U]?=some (wo x):=by
     have:=aP (aP (aP (aP (aP (aP (aP (aP zw 0 (.string x.n)) 1 (I x.q)) 2 (I x.s)) 3 (I x.f)) 4 (I x.b)) 5 (I x.l)) 6 (.slice x.wa (ln x.wl) x.wc)) 7 (.slice x.la (ln x.ll) x.lc);simpa only[sit,lcs,lcz]using this
    have zl:Hid (aG w ((((((((w8.setCell (Y U 0) (.string x.n)).setCell (Y U 1) (I x.q)).setCell (Y U 2) (I x.s)).setCell (Y U 3) (I x.f)).setCell (Y U 4) (I x.b)).setCell (Y U 5) (I x.l)).setCell (Y U 6) (.slice x.wa (ln x.wl) x.wc)).setCell (Y U 7) (.slice x.la (ln x.ll) x.lc))):=yu.under (aE zb.oQ A) (nlq _) (λk e=>by rw[e];exact nlt zb.oQ.size hU);have xl:Hid (lH F S ((((((((w8.setCell (Y U 0) (.string x.n)).setCell (Y U 1) (I x.q)).setCell (Y U 2) (I x.s)).setCell (Y U 3) (I x.f)).setCell (Y U 4) (I x.b)).setCell (Y U 5) (I x.l)).setCell (Y U 6) (.slice x.wa (ln x.wl) x.wc)).setCell (Y U 7) (.slice x.la (ln x.ll) x.lc)) s b v):=hS.zL (yu.under A (nlq _) (λk e=>by rw[e];exact hU));obtain⟨t0,t1,t2,t3,t4,t5,t6,t7⟩:=gT zw;have tf:=jS zw;clear hp A xb zy V R zw yu hS xi yd yy yz qj qh qi HQ qk xh zb;simp only[lds,ldz,aD,Act.put];rw[yg,yh];clear yg yh;generalize K=K;gi_wp2_with fail;go_upto_region 4 with fail;obtain⟨W3,jb⟩:=cI ((((((((w8.setCell (Y U 0) (.string x.n)).setCell (Y U 1) (I x.q)).setCell (Y U 2) (I x.s)).setCell (Y U 3) (I x.f)).setCell (Y U 4) (I x.b)).setCell (Y U 5) (I x.l)).setCell (Y U 6) (.slice x.wa (ln x.wl) x.wc)).setCell (Y U 7) (.slice x.la (ln x.ll) x.lc));rw[jb]at xw qg zl xl ⊢;clear jb t0 t1 t2 t3 t4 t5 t6 t7 tf;have T:lH F S W3 s b v:=xl.oQ;have ja:W3.heap[U]?=some (wo x):=xw;have xj:Hid (aG w W3):=zl.oQ;clear xl xw zl;obtain⟨d,i,kq,qz,qw⟩:=RW s.b X;have kf:=aI qz;have jx:=aI qw;obtain⟨xc,xd⟩:=BY s.b X;obtain⟨cd,qb⟩:=bQ (dF s.b X);rw[←qb]at xc xd;have zn:=aI qb.symm;obtain⟨u0,u1,u2,u3,u4,u5,u6,u7⟩:=gT ja;clear qb qz qw;refine ZC 6 12 14 [some 45,some 46,some 47,some 48,some 49,some 50,some 44,some 51,some 52,some 53,some 7,some 8,none,none] YD ZF (NB S b x (dN s.b s.b.now (eY s.b X)) d i kq cd W3.heap.size) (PfI4 d i kq cd) (GI4e W3 (dN s.b s.b.now (eY s.b X)) d i kq cd) NB.zL NB.loc NB.free ?step ?free ?g0 ?gf ?store ?fin
    case step=>
     intro ii o K w' zh C A z;obtain⟨js,vf,vg,z3z⟩:=(T.zL A).c;have y0y:=ctq A u0;have y1y:=ctq A u1;have y2y:=ctq A u2;have y3y:=ctq A u3;have y4y:=ctq A u4;have y5y:=ctq A u5;have y6y:=ctq A u6;have y7y:=ctq A u7;match ii,zh with
     |1,_|2,_|3,_=>
      cases C;simp[Region.binds,NB]at z;simp only[aD,Act.put,z];gi_wp2;exact⟨_,by simp[aH,z],rfl,br _ _⟩
     |0,_|4,_=>
      cases C;gi_wp2;exact⟨_,uhx,rfl,br _ _⟩
     |5,_=>
      cases C;simp[Region.binds,NB]at z;simp only[aD,Act.put,z];gi_wp2_with fail;refine tqx ?_;refine(cw.2 (UJ (by have:=(T.zL A).e.s;omega) (T.zL A).e.l (T.zL A).b kv.b (qg.oQ.zL A) kb.oQ)).mono ?_;rintro e w5 ⟨⟨b',rfl,N,O⟩,B⟩;rw[kf.oQ,zn.oQ];have zm:=aI (N);have zr:=aI (O.weak A.size);clear N O;gi_wp2;exact⟨_,by simp[aH,z],⟨b',rfl,zm.oQ,zr.oQ⟩,B⟩
     |6,_=>
      cases C;obtain⟨b',zu,N,O⟩:=Zq z 5;have zm:=aI (N);have zr:=aI (O);clear N O z;simp only[aD,Act.put,zu];gi_wp2;exact⟨_,by simp[aH,zu],⟨b',rfl,zm.oQ,zr.oQ⟩,br _ _⟩
     |7,_=>
      cases C;obtain⟨b',L,N,O⟩:=Zq z 6;have zm:=aI (N);have zr:=aI (O);clear N O z;simp only[aD,Act.put,L];gi_wp2;exact⟨_,by simp[aH,L],⟨b',by simp[aH,L],rfl,zm.oQ,zr.oQ⟩,br _ _⟩
     |8,_|9,_=>
      cases C;obtain⟨b',L,N,O⟩:=Zq z 6;clear N O z;simp only[aD,Act.put,L];gi_wp2;exact⟨_,by simp[aH,L],rfl,br _ _⟩
     |10,_|11,_=>
      cases C;gi_wp2;exact⟨_,uhx,⟨_,rfl,A.size,wnq w' _⟩,aC (br _ _) _⟩
     |q+12,h=>omega
    case free=>
     intro ii o K w' t zh qc C ht htM j z;obtain⟨b',p,q,j⟩:=j;have L:=j.tt
     have qd:ii=8∨ii=9:=by
      simp[YD]at qc;omega
     clear j z;rcases qd with rfl|rfl
     ·simp at C;subst C;simp only[aD,Act.put,L];gi_wp2;exact⟨gF d i kq,by simp[aH,L],rfl,trivial⟩
     ·simp at C;subst C;simp only[aD,Act.put,L];gi_wp2;exact⟨I cd,by simp[aH,L],rfl,trivial⟩
    case g0=>
     intro K w' A hp;obtain⟨b',yg,yh,h1,h2⟩:=hp 7 dz rfl;obtain⟨p,ep,zp,za⟩:=hp 10 dz rfl;obtain⟨q,eq,zq,D⟩:=hp 11 dz rfl;exact⟨b',p,q,yg,yh,ep,eq,A,h1,h2,zp,zq,λ_=>za,λh=>absurd h dz,λ_=>D,λh=>absurd h dz⟩
    case gf=>
     intro t K w' ii v qc j;obtain⟨b',p,q,j⟩:=j
     have qd:ii=8∨ii=9:=by
      simp[YD]at qc;omega
     rcases qd with rfl|rfl<;>exact⟨b',p,q,j.tt,j.v,j.vp,j.vq,j.bel,j.cnt,j.sp,j.zp,j.zq,j.p0,j.p1,j.q0,j.q1⟩
    case store=>
     intro t o K w' h12 h15 C j z;obtain⟨b',p,q,j⟩:=j;have ht:t=12∨t=13:=om;rcases ht with rfl|rfl
     ·simp at C;subst C;have xn:=j.v;have xp:=j.vp;have za:=j.p0 rfl;obtain⟨vb,vc,vd⟩:=aM za;have ve:=jS za;have k1:=aP za 0 (I b'.now);have k2:=aP k1 1 (fs b');have k3:=aP k2 2 (hs b');have D:=j.q0 dz;have qe:q≠p:=λe=>by rw[e,za]at D;cases D
      have HQ:=aI (bF D (dJ w' p b') qe);have HP:=aI k3;have xm:Hid (dS W3.heap.size (gI w' p b') b'):=j.sp.butT (dJ w' p b') za dz dz dz;have xg:Hid (aG W3 (gI w' p b')):=(dJ w' p b').under j.bel (nlq _) (λk e=>by rw[e];exact j.zp);have J:Hid _:=j;clear j z za D k1 k2 k3;simp only[aD,Act.put,xn,xp];gi_wp2;exact⟨undef,by simp[aH,xn,xp],b',p,q,J.oQ.tt,xn,xp,J.oQ.vq,xg.oQ,J.oQ.cnt,xm.oQ,J.oQ.zp,J.oQ.zq,λh=>absurd h dz,λ_=>HP.oQ,λ_=>HQ.oQ,λh=>absurd h dz⟩
     ·simp at C;subst C;have qu:K 8=gF d i kq:=z (eD 8) sm rfl dz rfl;have xq:=j.vq;have D:=j.q0 dz;obtain⟨vb,vc,vd⟩:=aM D;have ve:=jS D;have k1:=aP D 0 (I d);have k2:=aP k1 1 (I i);have k3:=aP k2 2 (I kq);have yt:aU (λr=>r=q) w' (((w'.setCell (Y q 0) (I d)).setCell (Y q 1) (I i)).setCell (Y q 2) (I kq)):=(((aU.refl (λr=>r=q) w').set (g:=q) rfl _ _).set (g:=q) rfl _ _).set (g:=q) rfl _ _;have zj:=j.p1 dz;have qe:p≠q:=λe=>by rw[←e,zj]at D;simp[Bk.obj]at D
      have HP:=aI (bF zj yt qe);have HQ:=aI k3;have xm:Hid (dS W3.heap.size (((w'.setCell (Y q 0) (I d)).setCell (Y q 1) (I i)).setCell (Y q 2) (I kq)) b'):=j.sp.butT yt D dz dz dz;have xg:Hid (aG W3 (((w'.setCell (Y q 0) (I d)).setCell (Y q 1) (I i)).setCell (Y q 2) (I kq))):=yt.under j.bel (nlq _) (λk e=>by rw[e];exact j.zq);have J:Hid _:=j;clear j z zj D k1 k2 k3 yt;simp only[aD,Act.put,qu,xq];gi_wp2;exact⟨undef,by simp[aH,qu,xq],b',p,q,J.oQ.tt,J.oQ.v,J.oQ.vp,xq,xg.oQ,J.oQ.cnt,xm.oQ,J.oQ.zp,J.oQ.zq,λh=>absurd h dz,λ_=>HP.oQ,λh=>absurd h dz,λ_=>HQ.oQ⟩
    case fin=>
     intro K w' j hp;obtain⟨b',p,q,j⟩:=j;have d9:K 9=I cd:=hp 9 dz rfl;have qo:=j.vp;have zt:=j.vq;have zv:=T.zL j.bel;have qy:=T.fit.1;have zc:Hid (lH (λk=>F k∨(W3.heap.size<=k/\k<w'.heap.size)) S (gI w' S b') ⟨dN s.b s.b.now (eY s.b X),s.t⟩ b' v):=zv.put qy T.fit.2 (j.sp.at (λk e=>e) j.cnt);have jy:Hid (∀k,(F k∨(W3.heap.size<=k/\k<w'.heap.size))->F k∨w.heap.size<=k):=λk hk=>hk.elim .inl (λh=>.inr (nlt xj.oQ.size h.1));have yc:Hid (aU F w (gI w' S b')):=(aU.below (aE xj.oQ j.bel)).trans ((dJ w' S b').wide (λk e=>by rw[e];exact T.fS));have kc:=aI (aE xj.oQ j.bel);obtain⟨y0,y1,y2,y3⟩:=zv.c;have yf:=zv.fz;have zj:=j.p1 dz;have jn:=j.q1 dz;obtain⟨x0,x1,x2⟩:=aM zj;have qx:q≠S:=λe=>by have:=j.zq;omega
     have jo:=bF jn (dJ w' S b') qx;obtain⟨v0,v1,v2⟩:=aM jo;have ql:=aI zv;clear hp j zv zj jn qx jo qy u0 u1 u2 u3 u4 u5 u6 u7 ja T;simp only[lds,ldz,aD,Act.put];rw[d9,qo,zt];clear d9 qo zt;generalize K=K;by_cases zd:cd=0
     ·have jd:(cd !=0)=false:=by simp[zd]
      obtain⟨jg,km,kn,ko,kp,ks,kt⟩:=jx.oQ (by rw[zn.oQ];exact zd);obtain⟨s0,yi⟩:∃s,s=dH d:=⟨_,rfl⟩;obtain⟨s1,yj⟩:∃s,s=(⟨#[108,97,116,101,32]⟩:Ba)++s0:=⟨_,rfl⟩;obtain⟨s2,yk⟩:∃s,s=s1++(⟨#[32,119,97,121,32]⟩:Ba):=⟨_,rfl⟩;obtain⟨s3,yl⟩:∃s,s=dH i:=⟨_,rfl⟩;obtain⟨s4,ym⟩:∃s,s=s2++s3:=⟨_,rfl⟩;obtain⟨s5,yn⟩:∃s,s=s4++(⟨#[32,108,101,118,101,108,32]⟩:Ba):=⟨_,rfl⟩;obtain⟨s6,yo⟩:∃s,s=dH kq:=⟨_,rfl⟩;obtain⟨s7,yp⟩:∃s,s=s5++s6:=⟨_,rfl⟩;have vh:s0.size<=2000001:=by rw[yi];exact bD kn
      have vi:s1.size=5+s0.size:=by rw[yj,bsz];rfl
      have vj:s2.size=s1.size+5:=by rw[yk,bsz];rfl
      have vk:s3.size<=2000001:=by rw[yl];exact bD kp
      have vl:s4.size=s2.size+s3.size:=by rw[ym,bsz]
      have vm:s5.size=s4.size+7:=by rw[yn,bsz];rfl
      have vn:s6.size<=2000001:=by rw[yo];exact bD kt
      have vo:s7.size=s5.size+s6.size:=by rw[yp,bsz]
      have gs1:¬9223372036854775807<5+s0.size:=om;have gs2:¬9223372036854775807<s1.size+5:=om;have gs4:¬9223372036854775807<s2.size+s3.size:=om;have gs5:¬9223372036854775807<s4.size+7:=om;have gs7:¬9223372036854775807<s5.size+s6.size:=om
      have zs:Hid (oI s X=(⟨dN s.b s.b.now (eY s.b X),s.t⟩,s7)):=by
       rw[Hid,oI,zn.oQ,if_pos zd,jg,←yi,←yj,←yk,←yl,←ym,←yn,←yo,←yp]
      have jt:=aI yi;have fs1:=yj.symm;have fs2:=yk.symm;have ju:=aI yl;have fs4:=ym.symm;have fs5:=yn.symm;have jv:=aI yo;have fs7:=yp.symm;clear jg yi vh yj vi yk vj yl vk ym vl yn vm yo vn yp vo;subst zd;gi_wp2_with fail;go_upto_region 8 with fail;obtain⟨W7,xx⟩:=cI (((w'.setCell (Y S 0) (I b'.now)).setCell (Y S 1) (fs b')).setCell (Y S 2) (hs b'));have xa:gI w' S b'=W7:=xx;rw[xa]at v0 v1 v2 zc yc;rw[xx];clear xx xa y0 y1 y2 y3 yf x0 x1 x2;refine pG 14 [some 62,some 63,some 64,some 65,some 66,some 67,some 68,some 69,some 70,some 71,some 72,some 73,some 74,some 75] (EA q d i kq s0 s1 s2 s3 s4 s5 s6 s7) (λ_ _ _ _ h _=>h) ?step ?fin
      case step=>
       intro ii o K w' zh C A z;have js:=ctq A v0;have vf:=ctq A v1;have vg:=ctq A v2;match ii,zh with
       |1,_|3,_|4,_|6,_|8,_|9,_|11,_|13,_=>
        cases C;simp[Region.binds,EA]at z;simp only[aD,Act.put,z];gi_wp2;exact⟨_,by simp[aH,z],rfl,br _ _⟩
       |0,_|5,_|10,_=>
        cases C;gi_wp2;exact⟨_,uhx,rfl,br _ _⟩
       |2,_=>
        cases C;simp[Region.binds,EA]at z;simp only[aD,Act.put,z];gi_wp2_with fail;refine tqx ?_;refine(cw.2 (wO d w' (zc.oQ.e.zL A) km om)).mono ?_;rintro e w5 ⟨rfl,B⟩;rw[←jt.out];gi_wp2;exact⟨_,by simp[aH,z],rfl,B⟩
       |7,_=>
        cases C;simp[Region.binds,EA]at z;simp only[aD,Act.put,z];gi_wp2_with fail;refine tqx ?_;refine(cw.2 (wO i w' (zc.oQ.e.zL A) ko om)).mono ?_;rintro e w5 ⟨rfl,B⟩;rw[←ju.out];gi_wp2;exact⟨_,by simp[aH,z],rfl,B⟩
       |12,_=>
        cases C;simp[Region.binds,EA]at z;simp only[aD,Act.put,z];gi_wp2_with fail;refine tqx ?_;refine(cw.2 (wO kq w' (zc.oQ.e.zL A) ks om)).mono ?_;rintro e w5 ⟨rfl,B⟩;rw[←jv.out];gi_wp2;exact⟨_,by simp[aH,z],rfl,B⟩
       |q+14,h=>omega
      case fin=>
       intro K w8 A hp;have qv:K 13=.string s7:=hp 13 dz;have kd:Hid _:=zc.oQ.zL A;have zl:Hid _:=yc.oQ.trans (aU.below A);clear hp A zc yc;simp only[lds,ldz,aD,Act.put];rw[qv];clear qv;generalize K=K;gi_wp2_with fail;go_wp2;go_ret;exact .inr ⟨⟨_,_,_,by rw[ye.oQ,zs.oQ];exact kd.oQ,jy.oQ⟩,by rw[ye.oQ,zs.oQ];rfl,zl.oQ⟩
     ·have jd:(cd !=0)=true:=by simp[zd]
      have zs:Hid (oI s X=(⟨dN s.b s.b.now s.b.hl,s.t⟩,jC cd)):=by rw[Hid,oI,zn.oQ,if_neg zd,eY,mO,if_neg (by rw[←dF,zn.oQ];exact zd)]
      clear zc yc v0 v1 v2;gi_wp2_with fail;go_wp2_with fail;refine(wD cd _ ql.oQ.e xc xd).mono ?_;rintro e w9 ⟨rfl,qa⟩;have ke:=aI ((ql.oQ.zL qa).same);have jw:Hid (aU F w w9):=aU.below (aE kc.oQ qa);clear qa;go_wp2;go_ret;exact .inr ⟨⟨F,b,v,by rw[ye.oQ,zs.oQ];exact ke.oQ,λk hk=>.inl hk⟩,by rw[ye.oQ,zs.oQ];rfl,jw.oQ⟩
  ·have HR:Hid (k8 s a=(s,dR)):=by rw[Hid,G.oQ,sA H];rfl
   have zb:=aI Z;clear H Z;go_wp2;exact⟨rfl,.inl ⟨HR.oQ,rfl,zb.oQ⟩⟩
 ·have HR:Hid (k8 s a=(s,dR)):=xR hl;have ku:decide ((8:Int)<=(ln a:Int))=false:=by rw[dfi];omega
  clear hl;go_enter Tryz.func35,Tryz.ntmps35;go_wp2_with (go_at_call 45;refine(jU _).mono ?_;rintro e w' ⟨rfl,rfl⟩);exact⟨rfl,.inl ⟨HR.oQ,rfl,br _ _⟩⟩
