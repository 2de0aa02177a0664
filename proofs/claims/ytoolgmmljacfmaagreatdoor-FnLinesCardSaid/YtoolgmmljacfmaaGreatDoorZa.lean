import Derived.Lib.SplitLaws
import Derived.Lib.Split
import Derived.Lib.IndexBytes
import Derived.Lib.IndexLaws
import Derived.Test.YtoolgmmljacfmaaGreatDoorYf
import Derived.Test.YtoolgmmljacfmaaGreatDoorShelf
set_option maxRecDepth 100000
set_option maxHeartbeats 8000000
open List renaming length → ln
open Go.Proofs.Tryz Go.RowKit
namespace Go.Proofs.YtoolgmmljacfmaaGreatDoor
open Go.BigFrame
theorem wP:∀(l:List UInt8) (c:UInt8) (i:Nat),Lib.indexByte l c=(i:Int)->l[i]?=some c/\∀j,j<i->l[j]?≠some c
 |[],_,i,h=>by simp[Lib.indexByte]at h
 |b::l,c,i,h=>by
  unfold Lib.indexByte at h;split at h
  ·rename_i a;have:i=0:=om;subst this;exact⟨by simpa using beq_iff_eq.1 a,λj g=>by omega⟩
  ·rename_i a;split at h;·omega
   ·have hge:=Lib.indexByte_ge l c;rename_i m;have hm':¬Lib.indexByte l c=-1:=λe=>m (beq_iff_eq.2 e);obtain⟨k,rfl⟩:∃k,i=k+1:=⟨i-1,om⟩;obtain⟨d,f⟩:=wP l c k om;refine⟨by simpa using d,λj g=>?_⟩;cases j with
    |zero=>simpa using λe=>a (beq_iff_eq.2 e)
    |succ j=>simpa using f j om
theorem RK (s:Ba)(a f j:Nat)(h:a+j<=s.size):(s.extract a s.size).extract f j=s.extract (a+f) (a+j):=by
 apply ByteArray.ext;rw[ByteArray.data_extract,ByteArray.data_extract,ByteArray.data_extract,Array.extract_extract];congr 1;have:s.data.size=s.size:=rfl;omega
theorem uF (c:Int)(s:Ba)(a:Nat)(ha:a<=s.size):∀(m f j:Nat),s.size-(a+j)=m->a+j<=s.size->fM c (s.extract a s.size) f j=fM c s (a+f) (a+j)
 |m,f,j,h,hj=>by
  have g:(s.extract a s.size).size=s.size-a:=by rw[ByteArray.size_extract];omega
  by_cases e:a+j<s.size
  ·have b:j<(s.extract a s.size).size:=om
   have i:(s.extract a s.size)[j]=s[a+j]:=by
    rw[ByteArray.getElem_extract]
   by_cases d:(s[a+j].toNat:Int)=c
   ·rw[lZ e d,lZ b (by rw[i];exact d),RK s a f j hj];have:=uF c s a ha (s.size-(a+(j+1))) (j+1) (j+1) rfl om;rw[this,Nat.add_assoc]
   ·rw[kQ e d,kQ b (by rw[i];exact d)];have:=uF c s a ha (s.size-(a+(j+1))) f (j+1) rfl om;rw[this,Nat.add_assoc]
  ·have b:¬j<(s.extract a s.size).size:=om;rw[lP e,lP b,g,RK s a f (s.size-a) om,show a+(s.size-a)=s.size from by omega]
 termination_by m => m
theorem xM (c:Int)(s:Ba)(f i:Nat)(a:i<=s.size)(h:∀j (hj:j<s.size),j<i->¬(s[j].toNat:Int)=c):∀k,k<=i->fM c s f (i-k)=fM c s f i
 |0,_=>rfl
 |k+1,hk=>by
  rw[kQ om (h _ om om),←xM c s f i a h k om];congr 1;omega
theorem MB (s:Ba):s.extract 0 s.size=s:=by
 apply ByteArray.ext;rw[ByteArray.data_extract];exact Array.extract_size
theorem AN (c:UInt8):∀(n:Nat) (s:Ba),s.size<=n->Lib.splitB ⟨#[c]⟩ 0 (Lib.countB s ⟨#[c]⟩) s=bG (c.toNat:Int) s
 |n,s,hn=>by
  have a:∀j (d:j<s.size),s.data.toList[j]?=some s[j]:=λj d=>by rw[lge (by simpa using d)];rfl
  have b:(⟨#[c]⟩:Ba).size=1:=rfl;rcases Lib.indexB_cases s ⟨#[c]⟩with h|⟨i,h,q⟩
  ·rw[Lib.splitB_miss _ _ _ _ h];have h':Lib.indexByte s.data.toList c=-1:=by rw[←Lib.index_one];exact h
   have k:=Lib.indexByte_none h';unfold bG
   rw[show fM (c.toNat:Int) s 0 0=fM (c.toNat:Int) s 0 s.size from by
    have:=xM (c.toNat:Int) s 0 s.size (nlq _) (λj d _ e=>k j (by rw[a j d];congr 1;exact UInt8.toNat_inj.1 om)) s.size (nlq _);rwa[nss]at this,lP om,MB]
  ·have h':Lib.indexByte s.data.toList c=(i:Int):=by rw[←Lib.index_one];exact h
   obtain⟨l,o⟩:=wP _ _ _ h';rw[b]at q;have f:i<s.size:=om;rw[a i f]at l;have p:s[i]=c:=by simpa using l
   rw[Lib.countB_hit s ⟨#[c]⟩ i (show 1<=1 from nlq _) h,Nat.add_comm 1,Lib.splitB_hit _ _ _ _ i h,b,naz];have hsz:(s.extract (i+1) s.size).size=s.size-(i+1):=by rw[ByteArray.size_extract];omega
   rw[AN c (n-1) (s.extract (i+1) s.size) om];unfold bG
   have m:fM (c.toNat:Int) s 0 0=fM (c.toNat:Int) s 0 i:=by
    have:=xM (c.toNat:Int) s 0 i om (λj d g e=>o j g (by rw[a j d];congr 1;exact UInt8.toNat_inj.1 om)) i (nlq _);rwa[nss]at this
   rw[m,lZ f (by rw[p]),uF (c.toNat:Int) s (i+1) om _ 0 0 rfl om]
 termination_by _ s => s.size
structure zP (w:World):Prop where
 l:l8 w
 t:Lib.TabIs Tryz.prog w "internal/strconv.uint64pow10" .u64 Lib.pow10Tab
 m:∃m,w.cell? ⟨0,0,none⟩=some (.int .i64 m)
 s:8<=w.heap.size
theorem IL (s:Ba)(c:UInt8)(w:Wd)(d:zP w)(h:s.size<=1048576):
 aW 33 #[.string s,.string ⟨#[c]⟩] w λe w'=>(e=rt (.slice (some (Y w.heap.size 0)) (ln (bG (c.toNat:Int) s)) (ln (bG (c.toNat:Int) s)))/\Xs 1 eE w' (some (Y w.heap.size 0)) (bG (c.toNat:Int) s))/\aG w w':=by
 obtain⟨m,f⟩:=d.m;refine(Tryz.strings_Split s ⟨#[c]⟩ m w om f (show 1<=1 from nlq _)).mono ?_;rintro e w' ⟨rfl,rfl⟩;have b:=Lib.splitB_all ⟨#[c]⟩ (show 1<=1 from nlq _) 0 _ s rfl;rw[AN c s.size s (nlq _)]at b ⊢;rw[b];refine⟨⟨rfl,?_⟩,aC (br _ _) _⟩
 have g:(w.alloc (.cells ((bG (c.toNat:Int) s).map Value.string).toArray 9)).ownsRow w.heap.size 9 1 (.slice (some (ya w 0)) (ln (bG (c.toNat:Int) s)) (ln (bG (c.toNat:Int) s))) (ln (bG (c.toNat:Int) s)) ((bG (c.toNat:Int) s).map Value.string):=
  ⟨sm,.inr ⟨w.heap.size,_,_,rfl,nlq _,wnq w _,nlq _,by have:=kU (c.toNat:Int) s;unfold maxLen;omega,sm,by simp[ltl]⟩⟩
 obtain⟨a,cc,e,hx⟩:=sY g;cases e;exact hx
theorem OA (w:Wd)(k:Nat)(os:Array Obj):aG w (Go.Sort.grow (w.drewN k) os):=by
 have h:=below_drewN (br w.heap.size w) k;refine h.trans ⟨rfl,rfl,rfl,by simp[Go.Sort.grow],λi hi=>?_⟩;have a:=h.size;simp only[Go.Sort.grow];rw[Array.getElem?_append_left om]
theorem wO (n:Int)(w:Wd)(b:zP w)(h0:0<=n)(a:n<=9223372036854775807):aW 79 #[I n] w λe w'=>e=rt (.string (dH n))/\aG w w':=by
 refine(Tryz.strconv_Itoa n om a w b.t).mono ?_;rintro e w' ⟨rfl,k,os,rfl⟩;refine⟨by rw[Lib.itoa,if_neg om];rfl,?_⟩;exact OA _ _ _
variable {w w':Wd}{S:Nat → Prop}{a b:Int}
theorem zP.blocks (h:zP w)(c:w.heap.size<=w'.heap.size)(a:∀k,k<8->w'.heap[k]?=w.heap[k]?):zP w':=by
 obtain⟨l,t,⟨m,b⟩,s⟩:=h;refine⟨?_,?_,⟨m,?_⟩,om⟩
 ·unfold l8 World.cell? at l ⊢;rw[a _ dz];exact l
 ·unfold Lib.TabIs World.var? at t ⊢;rw[show prog.globalNamed "internal/strconv.uint64pow10"=some 4 from by kernel_rfl]at t ⊢;simp only[Option.bind_some]at t ⊢;rw[a 4 dz];exact t
 ·unfold World.cell? at b ⊢;rw[a _ dz];exact b
theorem zP.zL {w w':Wd}(h:zP w)(a:aG w w'):zP w':=h.blocks a.size (λk hk=>a.block k (by have:=h.s;omega))
theorem zP.but (h:zP w)(a:aU S w w')(b:∀k,S k->8<=k):zP w':=h.blocks a.size (λk hk=>a.block k (by have:=h.s;omega) (λe=>by have:=b k e;omega))
theorem wD (c:Int)(w:Wd)(d:zP w)(a:0<=c)(b:c<=2000000):aW 78 #[I c] w λe w'=>e=rt (.string (jC c))/\aG w w':=by
 have g:=bD b;go_enter func78,ntmps78;go_wp2_with fail;refine(wO c w d a om).mono ?_;rintro e w' ⟨rfl,f⟩;have hz:¬9223372036854775807<5+(dH c).size:=om;go_wp2;go_ret;exact⟨rfl,f⟩
def qU (a b:Int):ByteArray:=dH a++WC++dH b
theorem PA (c:a<=2000000)(d:b<=2000000):(qU a b).size<=4000003:=by
 have:=bD c;have:=bD d;have e:WC.size=1:=rfl;simp only[qU,bsz,e];omega
theorem C9 (a b:Int)(w:Wd)(g:zP w)(i:0<=a)(j:a<=2000000)(k:0<=b)(l:b<=2000000):aW 86 #[I a,I b] w λe w'=>e=rt (.string (qU a b))/\aG w w':=by
 have m:=bD j;have hs2:=bD l;go_enter func86,ntmps86;go_wp2_with fail;refine(wO a w g i om).mono ?_;rintro e w1 ⟨rfl,c⟩;have f:=g.zL c;have hz:¬9223372036854775807<(dH a).size+1:=om;go_wp2_with fail;refine(wO b w1 f k om).mono ?_;rintro e w2 ⟨rfl,d⟩;have hz2:¬9223372036854775807<(dH a).size+1+(dH b).size:=om;have h:=aI (aE c d);clear c d;go_wp2;go_ret;exact⟨rfl,h.oQ⟩
def DI3 (a z:Bx)(n m bl off:Nat)(va:Value)(s0 s1 s2 s3:ByteArray)(j:Nat)(v:Value)(_w:World):Prop:=
 match j with
 |0|4|8|9=>v=va
 |1|10=>v=I (n:Int)
 |2=>v=.string s0
 |3=>v=.string s1
 |5=>v=(E bl off)
 |6=>v=(E bl (off+4))
 |7=>v=I a.i
 |11=>v=I (m:Int)
 |12=>v=(E bl (off+m*6))
 |13=>v=(E bl (off+m*6+5))
 |14=>v=I z.o
 |15=>v=.string s2
 |16=>v=.string s3
 |_=>True
theorem wR (l:List Bx)(ao:Oa)(x:Nat)(w:Wd)(hE:zP w)(hX:jG w ao l)(hn:ln l<=1048576)(K:∀b∈l,0<=b.i/\b.i<=2000000/\0<=b.o/\b.o<=2000000):
 aW 88 #[.slice ao (ln l) x] w λe w'=>e=rt (.string (iS l))/\aG w w':=by
 cases l with
 |nil=>
  go_enter func88,ntmps88;go_wp2;go_ret;exact⟨rfl,br _ _⟩
 |cons b r=>
  obtain⟨l,B⟩:=bQ (b::r);have c:l≠[]:=by rw[B];simp
  have d:Hid (iS (b::r)=dH (ln l:Int)++⟨#[64]⟩++qU (l.head c).i (l.getLast c).o):=by
   subst B;show dH _++⟨#[64]⟩++dH _++⟨#[45]⟩++dH _=dH _++⟨#[64]⟩++(dH _++⟨#[45]⟩++dH _);simp only[ByteArray.append_assoc];rfl
  rw[←B]at hX hn K ⊢;rw[←B]at d;clear B b r;rcases hX with h|⟨bl,F,rfl,W⟩;·exact absurd h c
  have C:0<ln l:=lpi.2 c;have R:=W 0 C;have T:=W (ln l-1) om;obtain⟨a,n⟩:=bQ (l.head c);obtain⟨z,t⟩:=bQ (l.getLast c);have ze:l[0]=a:=by rw[n,List.head_eq_getElem]
  have ez:l[ln l-1]'om=z:=by rw[t,List.getLast_eq_getElem]
  rw[ze]at R;rw[ez]at T;obtain⟨V,A,_,_⟩:=K a (by rw[n];exact List.head_mem _);obtain⟨_,_,Z,D⟩:=K z (by rw[t];exact List.getLast_mem _);rw[←n,←t]at d;clear n t ze ez c W K;obtain⟨m,hm⟩:=bQ (ln l-1);have hlm:(ln l:Int)-1=(m:Int):=om;have hml:m<ln l:=om;have hne0:((ln l:Int)==0)=false:=by rw[bfn];omega
  rw[←hm]at T;rw[Nat.zero_mul,naz]at R;clear hm;obtain⟨_,_,_,_,S,_⟩:=R;obtain⟨_,_,_,_,_,U⟩:=T;obtain⟨G,f⟩:∃s,s=dH (ln l:Int):=⟨_,rfl⟩;obtain⟨H,g⟩:∃s,s=G++(⟨#[64]⟩:Ba):=⟨_,rfl⟩;obtain⟨J,j⟩:∃s,s=qU a.i z.o:=⟨_,rfl⟩;obtain⟨M,k⟩:∃s,s=H++J:=⟨_,rfl⟩;have za:G.size<=2000001:=by rw[f];exact bD om
  have zb:H.size=G.size+1:=by rw[g,bsz];rfl
  have zc:J.size<=4000003:=by rw[j];exact PA A D
  have zd:M.size=H.size+J.size:=by rw[k,bsz]
  have gs1:¬9223372036854775807<G.size+1:=om;have gs3:¬9223372036854775807<H.size+J.size:=om;have HT:Hid (iS l=M):=by rw[Hid,d.oQ,←f,←g,←j,←k]
  have O:=aI f;have fs1:=g.symm;have P:=aI j;have fs3:=k.symm;clear d f za g zb j zc k zd;go_enter func88,ntmps88;go_upto_region 3 with fail;refine pG 17 [some 6,some 7,some 8,some 9,some 10,some 11,some 12,some 13,some 14,some 15,some 16,some 17,some 18,some 19,some 20,some 21,some 22] (DI3 a z (ln l) m bl F (sl bl F (ln l) x) G H J M) (λ_ _ _ _ h _=>h) ?step ?fin
  case step=>
   intro ii o N w' X L u p;have z0z:=ctq u S;have z1z:=ctq u U;match ii,X with
   |1,_|3,_|5,_|6,_|7,_|10,_|11,_|12,_|13,_|14,_|16,_=>
    cases L;simp[Region.binds,DI3]at p;simp only[aD,Act.put,p];gi_wp2;exact⟨_,by simp[aH,p],rfl,br _ _⟩
   |0,_|4,_|8,_|9,_=>
    cases L;gi_wp2;exact⟨_,uhx,rfl,br _ _⟩
   |2,_=>
    cases L;simp[Region.binds,DI3]at p;simp only[aD,Act.put,p];gi_wp2_with fail;refine tqx ?_;refine(cw.2 (wO (ln l:Int) w' (hE.zL u) om om)).mono ?_;rintro e w5 ⟨rfl,v⟩;rw[←O.out];gi_wp2;exact⟨_,by simp[aH,p],rfl,v⟩
   |15,_=>
    cases L;simp[Region.binds,DI3]at p;simp only[aD,Act.put,p];gi_wp2_with fail;refine tqx ?_;refine(cw.2 (C9 a.i z.o w' (hE.zL u) V A Z D)).mono ?_;rintro e w5 ⟨rfl,v⟩;rw[←P.out];gi_wp2;exact⟨_,by simp[aH,p],rfl,v⟩
   |q+17,h=>omega
  case fin=>
   intro N w8 u hp;have y:N 16=.string M:=hp 16 dz;have Q:=aI u;clear hp u;simp only[lds,ldz,aD,Act.put];rw[y];clear y;generalize N=N;gi_wp2_with fail;go_wp2;go_ret;exact⟨by rw[HT.oQ];rfl,Q.oQ⟩
def DC3 (vn:Value)(g oo:Nat)(x y:Int)(j:Nat)(v:Value)(_w:World):Prop:=
 match j with
 |0|3=>v=vn
 |1=>v=(E g oo)
 |2=>v=I x
 |4=>v=(E g (oo+1))
 |5=>v=I y
 |6=>v=.agg #[I x,I y]
 |_=>True
theorem NQ (s:Ba)(w:Wd)(hE:zP w)(zb:s.size<=1048575):
 aW 120 #[.string s] w λe w'=>((∃x y,bG 44 s=[x,y]/\j7 [x,y]=true/\e=rt (.agg #[I (aV x),I (aV y)]))∨((j7 (bG 44 s)=false∨¬(ln (bG 44 s))=2)/\e=V1))/\aG w w':=by
 have c:aG w (w.alloc (.cells #[I 0,I 0] 107)):=aC (br _ _) _;have r:=hE.zL c;have l:=wnq w (.cells #[I 0,I 0] 107);obtain⟨W0,U⟩:=cI (w.alloc (.cells #[I 0,I 0] 107));rw[U]at c r l;have k:=kU 44 s;go_enter Tryz.func120,Tryz.ntmps120;go_wp2_with fail;refine(IL s 44 W0 r om).mono ?_;rintro e w1 ⟨⟨rfl,d⟩,t⟩;rw[show(((44:UInt8).toNat:Nat):Int)=44 from rfl]at d ⊢;have m:=aI (aE c t);have D:=bJ l t;clear c t l r;obtain⟨q,X⟩:=bQ (bG 44 s);rw[←X]at d k ⊢;have M:=aI X;clear X;go_wp2_with fail;refine(kE q _ _ w1 d om).mono ?_;rintro e w2 ⟨⟨H,v2,rfl,G⟩|⟨j,rfl⟩,a⟩
 ·obtain⟨a2,c2,rfl,Z⟩:=pW (eN q).symm G;rw[eN]at*;have b:=aI (aE m.oQ a);have F:=bJ D a;clear a m G D;by_cases N:ln q=2
  ·obtain⟨z,A,rfl⟩:∃z A,q=[z,A]:=by
    match q,N with
    |[z,A],_=>exact⟨z,A,rfl⟩
   rcases Z with h|⟨g,O,rfl,u⟩;·cases h
   have J:w2.cell? (Y g O)=some (I (aV z)):=by have:=u 0 (by simp[aS]) 0 _ rfl;simpa[aS]using this
   have K:w2.cell? (Y g (O+1))=some (I (aV A)):=by have:=u 1 (by simp[aS]) 0 _ rfl;simpa[aS]using this
   obtain⟨f,S⟩:∃n,n=aV z:=⟨_,rfl⟩;obtain⟨i,T⟩:∃n,n=aV A:=⟨_,rfl⟩;have HY:Hid (∃x y,bG 44 s=[x,y]/\j7 [x,y]=true/\Ending.returned (.agg #[I f,I i])=rt (.agg #[I (aV x),I (aV y)])):=⟨z,A,M.oQ.symm,pY H,by rw[S,T]⟩;rw[←S]at J;rw[←T]at K;have HA:=aI F;clear S T u H N M k d F;go_wp2_with (go_at_call 45;refine(gQ _).mono ?_;rintro e w' ⟨⟨v,rfl⟩,rfl⟩);refine pG 7 [some 11,some 12,some 13,some 14,some 15,some 16,some 17] (DC3 (sl g O 2 c2) g O f i) (λ_ _ _ _ h _=>h) ?step ?fin
   case step=>
    intro ii o P w' W za B V;have z0z:=ctq B J;have z1z:=ctq B K;match ii,W with
    |1,_|2,_|4,_|5,_|6,_=>
     cases za;simp[Region.binds,DC3]at V;simp only[aD,Act.put,V];gi_wp2;exact⟨_,by simp[aH,V],rfl,br _ _⟩
    |0,_|3,_=>
     cases za;gi_wp2;exact⟨_,uhx,rfl,br _ _⟩
    |q+7,h=>omega
   case fin=>
    intro P L B hp;have e6:P 6=.agg #[I f,I i]:=hp 6 dz;have C:=bJ HA.oQ B;have r0:L.cell? (ya w 0)=some (I 0):=aB C rfl;have r1:L.cell? (ya w 1)=some (I 0):=aB C rfl;have rf:=jS C;have k1:=aP C 0 (I f);have k2:=aP k1 1 (I i);have Q:Hid (aG w ((L.setCell (ya w 0) (I f)).setCell (ya w 1) (I i))):=((aE b.oQ B).setCell (p:=(ya w 0)) (nlq _) _).setCell (p:=(ya w 1)) (nlq _) _;have q0:((L.setCell (ya w 0) (I f)).setCell (ya w 1) (I i)).cell? (ya w 0)=some (I f):=aB k2 rfl;have q1:((L.setCell (ya w 0) (I f)).setCell (ya w 1) (I i)).cell? (ya w 1)=some (I i):=aB k2 rfl;clear hp B C k1 k2;simp only[lds,ldz,aD,Act.put];rw[e6];clear e6;generalize P=P;gi_wp2_with fail;go_wp2_with fail;exact bpr (v:=.agg #[I f,I i]) (by simp[results,Tryz.results120,go_sem,q0,q1]) rfl ⟨.inl HY.oQ,Q.oQ⟩
  ·have R:Hid (j7 (bG 44 s)=false∨¬(ln (bG 44 s))=2):=.inr (by rw[←M.oQ];exact N);have h2':((ln q:Int)==2)=false:=by rw[bfn];omega
   clear N;go_wp2_with (go_at_call 45;refine(jU _).mono ?_;rintro e w' ⟨rfl,rfl⟩);exact⟨rfl,.inr ⟨R.oQ,rfl⟩,b.oQ⟩
 ·have R:Hid (j7 (bG 44 s)=false∨¬(ln (bG 44 s))=2):=.inl (by rw[←M.oQ];exact sA j);have b:=aI (aE m.oQ a);clear j a;go_wp2;exact⟨rfl,.inr ⟨R.oQ,rfl⟩,b.oQ⟩
variable {b:Wd}{v:Va}{a f:List (List Cx)}{l B:Nat}{g:List Yx}{y:Yx}{x:Ba}{n c k:Int}
def KpW (w w':World):Prop:=∀(k:Nat) (c:Array Value) (t:Nat),(t=89∨t=107∨t=3)->w.heap[k]?=some (.cells c t)->w'.heap[k]?=w.heap[k]?
theorem KpW.from (d:aG w w')(h:KpW w' b):KpW w b:=λk c t f a=>by
 have e:=d.block k (iB a);rw[←e]at a ⊢;exact h k c t f a
structure AS (w:World)(v:Value)(cs:List (List Cx)):Prop where
 e:∃wa wl wc,v=.slice wa wl.length wc/\wl.map Yx.l=cs/\(∀w',KpW w w'->Xs 1 Yx.cells w' wa wl/\∀y∈wl,y.In w')/\∀y∈wl,y.l.length<=y.c/\y.c<=9223372036854775807
theorem AS.zL {w w':Wd}(h:AS w v a)(i:aG w w'):AS w' v a:=by
 obtain⟨k,wl,wc,b,c,d,f⟩:=h.e;exact⟨k,wl,wc,b,c,λj g=>d j (g.from i),f⟩
theorem FE.doneK (h:FE l v f w g y B):AS w v f:=by
 have j:=h.out;rw[show(ln g)+1=(ln (g++[y]))by simp]at j;obtain⟨a,c,e,_⟩:=mD Yx.cells_length j;refine⟨a,g++[y],c,e,by rw[←h.eq];simp,λw' i=>⟨?_,λx b=>?_⟩,λx b=>?_⟩
 ·obtain⟨a',c',m,hx,_⟩:=mD Yx.cells_length (jI j (λk f _ d=>i k f _ (.inl rfl) d));cases e.symm.trans m;exact hx
 ·rcases lma.1 b with b|b;·exact h.dw w' (λk c _ d=>i k c _ (.inr (.inl rfl)) d) x b
  ·rw[lms.1 b];exact I8 h.yo (λk c d=>i k c _ (.inr (.inl rfl)) d)
 ·rcases lma.1 b with b|b;·exact h.dc x b
  ·rw[lms.1 b];exact vY h.yo
def ND (O m:Nat)(y:Yx)(x:ByteArray)(n0 n1:Int)(GD:Prop)(j:Nat)(vs:Nat->Value)(w:World):Prop:=
 match j with
 |0=>vs 0=(E O m)
 |1=>vs 1=(E O m)
 |2=>vs 2=(E O m)
 |3=>vs 3=(E O m)
 |4=>vs 4=.slice y.a y.l.length y.c
 |5=>vs 5=.string x
 |6=>vs 6=.agg #[I n0,I n1]/\GD
 |7=>(∃p,vs 7=.slice (some (Y p 0)) 1 1/\w.heap[p]?=some (.cells #[I n0,I n1] 107))/\GD
 |_=>True
theorem ND.zL {a:Prop}(j:Nat)(d:Nat->Va)(w w':Wd)(h:ND l B y x n c a j d w)(i:aG w w'):ND l B y x n c a j d w':=by
 unfold ND at*;split at h
 all_goals first
  |exact h
  |(obtain⟨⟨p,e,f⟩,g⟩:=h;exact⟨⟨p,e,bJ f i⟩,g⟩)
def dpI8 (j:Nat):List Nat:=[j]
def XM (j:Nat):Bool:=j==0
theorem ND.loc {c:Prop}(j:Nat)(b a:Nat->Va)(w:Wd)(g:∀q∈dpI8 j,b q=a q)(h:ND l B y x n k c j b w):ND l B y x n k c j a w:=by
 have e:b j=a j:=g j (by simp[dpI8]);unfold ND at*;split at h
 all_goals first
  |(rw[←e];exact h)
  |trivial
def PfI8 (O m:Nat)(_:Nat)(v:Value):Prop:=v=(E O m)
theorem ND.free {c:Prop}(j:Nat)(b:Nat->Va)(w:Wd)(a:XM j=true)(h:ND l B y x n k c j b w):PfI8 l B j (b j):=by
 simp[XM]at a;subst a;exact h
structure GI8 (W:World)(O m:Nat)(y:Yx)(B:Nat)(c:Cx)(GD:Prop)(t:Nat)(vs:Nat->Value)(w':World):Prop where
 g:GD
 a:t=8->aG W w'/\vs 4=.slice y.a y.l.length y.c/\∃p,vs 7=.slice (some ⟨p,0,none⟩) 1 1/\w'.heap[p]?=some (.cells #[.int .i64 c.x,.int .i64 c.y] 107)
 b:9<=t->∃w0,aG W w0/\w'.ownsRow B 107 2 (vs 8) (y.l.length+1) (aJ Cx.cells y.l++c.cells)/\w0.grownBy w' (Value.slice y.a y.l.length y.c).ownBlock
 c:10<=t->vs 9=.pointer (some ⟨O,m,none⟩)
 d:11<=t->vs 10=.pointer (some ⟨O,m,none⟩)
theorem PT (l:List ByteArray)(a:Option Addr)(X:Nat)(w:World)(hE:zP w)(hX:Xs 1 eE w a l)(hn:l.length<=1048576)(yx:∀x∈l,x.size<=1048575):
 aW 76 #[.slice a l.length X] w λe w'=>((∃G,fV l=some G/\∃v,e=rt v/\AS w' v G)∨(fV l=none/\e=V1))/\aG w w':=by
 obtain⟨iw,ys,yt,yu,yv⟩:=info_parts Tryz.info89;obtain⟨ic,yr,yn,yp,yq⟩:=info_parts Tryz.info107;have yk:aG w (w.alloc (.cells #[ms] 89)):=aC (br _ _) _;have yf:Hid _:=FK (wnq w (.cells #[ms] 89)) (nlq _)
 go_enter Tryz.func76,Tryz.ntmps76
 go_wp2
 go_loopw [3,11] (λv iv wr=>∃(k:Nat) (G:List (List Cx)) (J:List Yx) (y:Yx) (B:Nat),k<=l.length/\iv=I k/\Hid (fV (l.take k)=some G)/\Hid (FE w.heap.size v G wr J y B)/\Hid (J.length<=k/\y.l.length<=k)/\aG w wr) (λ_ iv _=>l.length-(intOf iv).toNat)
 case atStart=>exact⟨0,[[]],[],⟨none,[],0⟩,_,nz _,rfl,rfl,yf.oQ,⟨nlq _,nlq _⟩,yk⟩
 case round=>
  obtain⟨k,G,J,y,B,hk,rfl,HC,V,HL,hN⟩:=hrel
  by_cases N:k<l.length
  ·have zx:(k:Int)<(l.length:Int):=om
   rcases hX.zL hN with h|⟨bl,yw,ym,zu⟩
   ·rw[h]at N;simp at N
   subst ym;have c0:wr.cell? (Y bl (yw+k*1))=some (.string l[k]):=zu k N 0 _ rfl;rw[Nat.mul_one]at c0;have HS:Hid _:=DD l k N;rw[HC.oQ]at HS;have zz:=yx _ (lgm N);obtain⟨x,hx⟩:=bQ (l[k]);rw[←hx]at c0 HS zz;clear zu hx hX HC
   by_cases Z:x.toList=[47]
   ·have zj:=aI (HS.oQ.trans (Q6 Z))
    clear HS;have W:Hid _:=V.oQ.zL (aC (br _ wr) (.cells #[ms] 89));clear V
    go_wp2_with (at_builtin;refine wpList_append_own _ rfl (.tmp 17) (.tmp 19) 37 rfl w.heap.size 89 iw _ 1 24 Tryz.underlying37 ys yt yu yv rfl dz _ _ _ rfl W.oQ.out (Y wr.heap.size 0) 1 1 [ms] rfl rfl ?qc1 ?qc2 ?qc3 ?qc4 ?qc5 ?_)
    case qc1=>
     intro j u hj
     match j,hj with
     |0,hj=>simp at hj;subst hj;exact aB (wnq wr _) rfl
     |j+1,hj=>simp at hj
    case qc2=>first|rfl|(intro u hu;simp at hu;subst hu;rfl)
    case qc3=>have:=HL.oQ;unfold maxLen;omega
    case qc4=>have:=HL.oQ;omega
    case qc5=>have:=hN.size;simp;omega
    intro v' w4 Q D _;have yg:=aI (W.oQ.next Q D);have yl:aG w w4:=(aC hN _).grown D (by have:=hN.size;simp;omega) (λq hq=>eH W.oQ.out hq);clear Q D W;go_wp2
    go_roundw
    case rel=>exact⟨k+1,G++[[]],J++[y],⟨none,[],0⟩,_,om,gn,zj,yg,⟨by have:=HL.oQ;simp;omega,nz _⟩,yl⟩
    case measure=>simp[intOf];omega
   ·have hsl2:(x.toList==[47])=false:=by simp[Z]
    have zq:Hid (j7 (bG 44 x)=false∨¬(bG 44 x).length=2->fV l=none):=λh=>xP (HS.oQ.trans (JA Z h));obtain⟨R,e0⟩:∃n,n=aV ((bG 44 x).getD 0 ⟨#[]⟩):=⟨_,rfl⟩;obtain⟨S,e1⟩:∃n,n=aV ((bG 44 x).getD 1 ⟨#[]⟩):=⟨_,rfl⟩;obtain⟨U,zk⟩:∃U:Prop,U=∃p q,bG 44 x=[p,q]/\j7 [p,q]=true:=⟨_,rfl⟩;have ye:Hid (∀p q,bG 44 x=[p,q]->j7 [p,q]=true->U):=λp q L h2=>by rw[zk];exact⟨p,q,L,h2⟩
    have zc:Hid (∀p q,bG 44 x=[p,q]->R=aV p/\S=aV q):=λp q h=>by rw[e0,e1,h];exact⟨rfl,rfl⟩
    have zh:Hid (U->fV (l.take (k+1))=some (G.dropLast++[G.getLastD []++[⟨R,S⟩]])):=λh=>by
     rw[zk]at h;obtain⟨p,q,L,h2⟩:=h;obtain⟨rfl,rfl⟩:=zc.oQ p q L;exact HS.oQ.trans (KZ Z L h2)
    clear e0 e1 zk HS
    obtain⟨O,zr,rfl⟩:∃O c,u3=.slice (some (Y O 0)) (J.length+1) c:=by
     obtain⟨_,⟨_,e⟩|⟨g,X,_,e,_⟩⟩:=V.oQ.out
     ·omega
     ·exact⟨g,X,e⟩
    have yh:Hid (∃H,wr.heap[O]?=some (.cells H 89)):=by
     obtain⟨_,⟨e,_⟩|⟨g,X,H,e,_,e2,_⟩⟩:=V.oQ.out
     ·cases e
     ·cases e;exact⟨H,e2⟩
    have ko:wr.cell? (Y O J.length)=some (.slice y.a y.l.length y.c):=by
     have hx:Xs 1 Yx.cells wr (some (Y O 0)) (J++[y]):=by
      have s:=V.oQ.out;rw[show J.length+1=(J++[y]).length by simp]at s;obtain⟨a,c,e,hx,_⟩:=mD Yx.cells_length s
      cases e
      exact hx
     rcases hx with h|⟨bb,oo,e,hc⟩
     ·simp at h
     ·cases e
      have:=hc J.length sm 0 _ rfl
      simpa using this
    obtain⟨m,hm⟩:=bQ J.length;have HM:=aI hm;rw[←hm]at ko ⊢;clear hm;have K:Hid (m<=k/\y.l.length<=k):=by rw[Hid,HM.oQ];exact HL.oQ
    clear HL;have hmk:m<=1048576:=by have:=K.oQ;omega
    have hm1:((m+1:Nat):Int)-1=(m:Int):=om
    go_upto_region 8 with fail
    refine ZC 6 8 11 [some 26,some 27,some 28,some 29,some 30,some 31,some 32,some 33,some 34,some 35,some 36] XM dpI8 (ND O m y x R S U) (PfI8 O m) (GI8 wr O m y B ⟨R,S⟩ U) ND.zL ND.loc ND.free ?step ?free ?g0 ?gf ?store ?fin
    case step=>
     intro ii o T w' zw s z A;have z2z:=(z.cell (aA ko)).trans ko
     match ii,zw with
     |2,_|3,_|4,_=>
      simp at s;subst s
      simp[Region.binds,ND]at A
      simp only[aD,Act.put,A];gi_wp2;exact⟨_,by simp[aH,A],rfl,br _ _⟩
     |0,_|1,_|5,_=>
      simp at s;subst s;simp only[aD,Act.put];gi_wp2;exact⟨_,by simp[aH],rfl,br _ _⟩
     |6,_=>
      simp at s;subst s
      simp[Region.binds,ND]at A
      simp only[aD,Act.put,A];gi_wp2_with fail
      refine⟨trivial,rfl,?_⟩;refine(cw.2 (NQ x w' ((hE.zL hN).zL z) zz)).mono ?_
      rintro e w5 ⟨⟨p,q,hc,zy,rfl⟩|⟨zd,rfl⟩,zm⟩
      ·obtain⟨rfl,rfl⟩:=zc.oQ p q hc
       have HG:Hid U:=ye.oQ p q hc zy;clear hc zy;gi_wp2;exact⟨_,by simp[aH,A],⟨rfl,HG.oQ⟩,zm⟩
      ·have HZ:=aI (zq.oQ zd)
       have zi:=aI (aE (aE hN z) zm);clear zd zm;gi_wp2;exact⟨rfl,.inr ⟨HZ.oQ,rfl⟩,zi.oQ⟩
     |7,_=>
      simp at s;subst s;obtain⟨d6,f⟩:=Zq A 6;have HG:Hid U:=f;clear A f;simp only[aD,Act.put,d6];gi_wp2;exact⟨_,by simp[aH,d6],⟨⟨_,rfl,wnq w' _⟩,HG.oQ⟩,aC (br _ _) _⟩
     |q+8,h=>omega
    case free=>
     intro i o T w' t zw zn s ht htM f A;have zp:i=0:=by simpa[XM]using zn
     subst zp;clear f A;simp at s;subst s;simp only[aD,Act.put];gi_wp2;exact⟨(E O m),by simp[aH],rfl,trivial⟩
    case g0=>
     intro T w' z hp;exact⟨(hp 7 dz rfl).2,λ_=>⟨z,hp 4 dz rfl,(hp 7 dz rfl).1⟩,λh=>absurd h dz,λh=>absurd h dz,λh=>absurd h dz⟩
    case gf=>
     intro t T w' i v zn f;have zp:i=0:=by simpa[XM]using zn
     subst zp;exact⟨f.g,f.a,f.b,f.c,f.d⟩
    case store=>
     intro t o T w' h12 h15 s f A;have HG:Hid U:=f.g;have ht:t=8∨t=9∨t=10:=om
     rcases ht with rfl|rfl|rfl
     ·simp at s
      subst s;obtain⟨z,d4,p,d7,hp⟩:=f.a rfl;have HY:Hid _:=V.oQ.zL z;have yb:=aI z
      have P:∀j u,((⟨R,S⟩:Cx).cells)[j]?=some u->w'.cell? (((Y p 0):Addr).add j)=some u:=λj u h=>by
       rw[aal,nza]
       match j,h with
       |0,h=>simp[Cx.cells]at h;subst h;exact aB hp rfl
       |1,h=>simp[Cx.cells]at h;subst h;exact aB hp rfl
      have zf:∀u∈(⟨R,S⟩:Cx).cells,u.oneCell'=true:=λu hu=>by
       simp[Cx.cells]at hu
       rcases hu with rfl|rfl<;>rfl
      clear f A z;simp only[aD,Act.put,sit,lcs,lcz];rw[d4,d7];refine wpListIn_append_own w' rfl (.tmp 30) (.tmp 33) 87 rfl B 107 ic _ 2 16 Tryz.underlying87 yr yn yp yq rfl dz (.slice y.a y.l.length y.c) y.l.length (aJ Cx.cells y.l) rfl HY.oQ.yo (Y p 0) 1 1 (⟨R,S⟩:Cx).cells rfl rfl P zf (by have:=K.oQ;unfold maxLen;omega) (by have:=K.oQ;omega) HY.oQ.hi (λv1 w1 r C _=>?_);have yc:=aI r;have yd:=aI C;clear r C P zf;gi_wp2;exact⟨v1,by simp[aH,d4,d7],HG.oQ,λh=>absurd h dz,λ_=>⟨w',yb.oQ,yc.oQ,yd.oQ⟩,λh=>absurd h dz,λh=>absurd h dz⟩
     ·simp at s
      subst s;have d0:T 0=(E O m):=A (eD 0) sm rfl dz rfl;have zg:Hid (∃w0,aG wr w0/\w'.ownsRow B 107 2 (T 8) (y.l.length+1) (aJ Cx.cells y.l++(⟨R,S⟩:Cx).cells)/\w0.grownBy w' (Value.slice y.a y.l.length y.c).ownBlock):=f.b dz;clear f A;simp only[aD,Act.put,d0];gi_wp2;exact⟨_,by simp[aH,d0],HG.oQ,λh=>absurd h dz,λ_=>zg.oQ,λ_=>rfl,λh=>absurd h dz⟩
     ·simp at s
      subst s;have d9:=f.c dz;have zg:Hid (∃w0,aG wr w0/\w'.ownsRow B 107 2 (T 8) (y.l.length+1) (aJ Cx.cells y.l++(⟨R,S⟩:Cx).cells)/\w0.grownBy w' (Value.slice y.a y.l.length y.c).ownBlock):=f.b dz;clear f A;simp only[aD,Act.put,d9];gi_wp2;exact⟨_,by simp[aH,d9],HG.oQ,λh=>absurd h dz,λ_=>zg.oQ,λ_=>d9,λ_=>rfl⟩
    case fin=>
     intro T w' f hp;have zj:=aI (zh.oQ f.g);have zs:=f.d dz;obtain⟨w0,z,r,C⟩:=f.b dz;have HY:Hid _:=V.oQ.zL z;obtain⟨v1,za⟩:=bQ (T 8);rw[←za]at r;have zv:=FE.cell ⟨R,S⟩ HY.oQ r C;rw[←HM.oQ]at zv;obtain⟨y',zb,zl⟩:=zv;obtain⟨H,ze⟩:=yh.oQ;have F:w0.heap[O]?=some (.cells H 89):=bJ ze z;have M:w'.heap[O]?=some (.cells H 89):=(s9 HY.oQ.yo C F dz).trans F
     have hk2:w'.cell? (Y O m)=some (.slice y.a y.l.length y.c):=by
      have L:w0.cell? (Y O m)=some (.slice y.a y.l.length y.c):=(z.cell (aA ko)).trans ko;unfold World.cell? at L ⊢;rw[F]at L;rw[M];exact L
     have hkf:=jS M
     have yj:Hid (y'.l.length<=k+1):=by
      have h3:=MU r zb;have:=K.oQ;rw[Hid];omega
     rw[za]at zb
     have yi:Hid (FE w.heap.size (.slice (some (Y O 0)) (m+1) zr) (G.dropLast++[G.getLastD []++[⟨R,S⟩]]) (w'.setCell (Y O m) (.slice y'.a y'.l.length y'.c)) J y' B):=by
      rw[za,zb]at zl;exact zl
     have zi:Hid (aG w (w'.setCell (Y O m) (.slice y'.a y'.l.length y'.c))):=by
      have zt:w.heap.size<=O:=eH V.oQ.out rfl;have L:=aE hN z;have h2:aG w w':=L.grown C L.size (λq hq=>by have:=eH HY.oQ.yo hq;have:=HY.oQ.lo;omega);exact h2.setCell zt _
     simp only[lds,ldz,aD,Act.put];rw[zs,zb];clear hp f z r C zl ze F M HY za zs;generalize T=T;gi_wp2_with fail
     go_wp2
     go_roundw
     case rel=>exact⟨k+1,_,J,y',B,om,gn,zj,yi.oQ,⟨by have:=K.oQ;have:=HM.oQ;omega,yj.oQ⟩,zi.oQ⟩
     case measure=>simp[intOf];omega
  ·have zx:¬(k:Int)<(l.length:Int):=om
   have HZ:Hid (fV l=some G):=by rw[Hid];have:=HC.oQ;rw[ltl om]at this;exact this
   clear HC;go_wp2
   go_ret;exact⟨.inl ⟨G,HZ.oQ,_,rfl,V.oQ.doneK⟩,hN⟩
