import Derived.Test.YtoolgmmljacfmaaGreatDoorWv
import Derived.Test.YtoolgmmljacfmaaGreatDoorLeast
import Derived.MapKept
import Derived.Laws.StructEq
set_option maxRecDepth 100000
set_option maxHeartbeats 16000000
open List renaming length → ln
open Go.Proofs.Tryz Go.RowKit
namespace Go.Proofs.YtoolgmmljacfmaaGreatDoor
variable {b:Bk}{w:Wd}{x:Wx}
structure iX (w:World)(b:Bk):Prop where
 hf:Xs 3 Fx.cells w b.fa b.fl
 hnf:b.fl.length<=1048576
 hcap:b.fl.length<=b.fc
 hc2:b.fc<=9223372036854775807
 hs:∀f∈b.fl,f.n.size<=9223372036854775807
 hh:Xs 3 Hx.cells w b.ha b.hl
 hnh:b.hl.length<=1048576
 hgood:∀h∈b.hl,h.In w/\h.Fit
theorem iX.zL {w w':Wd}(h:iX w b)(a:aG w w'):iX w' b:=
 ⟨h.hf.zL a,h.hnf,h.hcap,h.hc2,h.hs,h.hh.zL a,h.hnh,λx hx=>⟨(h.hgood x hx).1.zL a,(h.hgood x hx).2⟩⟩
theorem iX.with {t:List Bx}{ta:Oa}(h:iX w b)(c:jG w ta t)(a:ln t<=1048576):rA w b t ta:=
 ⟨h.hf,h.hnf,h.hcap,h.hc2,h.hs,h.hh,h.hnh,h.hgood,c,a⟩
structure iL (w:World)(x:Wx):Prop where
 hi:x.In w
 hf:x.Fit
 hc:∀y∈x.wl,y.l.length<=y.c/\y.c<=9223372036854775807
theorem iL.zL {w w':Wd}(h:iL w x)(a:aG w w'):iL w' x:=⟨h.hi.zL a,h.hf,h.hc⟩
abbrev gF (late way lev:Int):Value:=.agg #[I late,I way,I lev]
abbrev jE (late way lev:Int):Obj:=.cells #[I late,I way,I lev] 79
def tK (b:Bk)(x:Wx)(late way lev:Int):Bool:=aQ b.fl (bL x way lev late)&&(fY b.now (bL x way lev late)&&kC x.n (bL x way lev late) b.hl)
theorem uQ (x:Wx)(c b a:Int):ln (bL x c b a)<=40:=by
 unfold bL;split;·rw[nM,eT];omega
 ·simp
theorem SZ (b:Bk)(x:Wx)(a d c:Int)(w:Wd)(D:iX w b)(hx:iL w x):
 aW 138 #[b.val,x.val,gF a d c] w λe w'=>e=rt (.bool (tK b x a d c))/\aG w w':=by
 have g:aG w (((w.alloc b.obj).alloc x.obj).alloc (jE a d c)):=aC (aC (aC (br _ _) _) _) _;have r:=(halq ((w.alloc b.obj).alloc x.obj) (jE a d c) w.heap.size so).trans ((halq (w.alloc b.obj) x.obj w.heap.size sm).trans (wnq w b.obj));have i:=wnq (w.alloc b.obj) x.obj;rw[wsa]at i;have u:=(halq ((w.alloc b.obj).alloc x.obj) (jE a d c) (w.heap.size+1) sm).trans i;clear i;obtain⟨T,q⟩:=cI (bL x d c a);have j:ln T<=1048576:=by rw[←q];have:=uQ x d c a;omega
 unfold tK;rw[q];have R:=aI q;clear q;obtain⟨U,y⟩:∃v,aQ b.fl T=v:=⟨_,rfl⟩;obtain⟨N,z⟩:∃v,fY b.now T=v:=⟨_,rfl⟩;obtain⟨v3,A⟩:∃v,kC x.n T b.hl=v:=⟨_,rfl⟩;rw[y,z,A];have O:Hid _:=y;have P:Hid _:=z;have Q:Hid _:=A;clear y z A;have G:=hx.hf;go_enter func138,ntmps138;go_wp2_with fail;obtain⟨W0,o⟩:=cI (((w.alloc b.obj).alloc x.obj).alloc (jE a d c));rw[o]at g r u ⊢;clear o;refine(cw.1 (oS 4 om x d c a W0 (hx.hi.zL g) G.wn G.ln G.yn)).mono ?_;rintro e w1 ⟨⟨v,rfl,C⟩,h⟩;rw[R.oQ]at C;obtain⟨ta,M,rfl,B⟩:=C.slice;have s:=btq h r;have K:=btq h u;have t:=aE g h;have S:w1.cell? (ya w 1)=some (fs b):=aB s rfl;have k:Hid _:=s;have l:Hid _:=K;clear r u s K g h C;go_wp2_with fail;refine(qJ b.fl T _ _ _ _ _ (D.hf.zL t) B D.hnf j).mono ?_;rintro e H ⟨rfl,f⟩;rw[O.out];have p:=aE t f;have m:=B.zL f;have J:=btq f k.oQ;have L:=btq f l.oQ;obtain⟨m0,m1,m2⟩:=aM J;have m3:H.cell? (Y (w.heap.size+1) 0)=some (.string x.n):=aB L rfl;clear k l t B f S J L;cases U with
 |false=>
  go_wp2;go_ret;exact⟨rfl,p⟩
 |true=>
 go_wp2_with fail;refine(uK T b.now N P.out ta M H m j).mono ?_;rintro e H ⟨rfl,rfl⟩;cases N with
 |false=>
  go_wp2;go_ret;exact⟨rfl,p⟩
 |true=>
 go_wp2_with fail;refine(uA b x.n T ta M _ ((D.zL p).with m j)).mono ?_;rintro e w3 ⟨rfl,F⟩;rw[Q.out];go_wp2;go_ret;exact⟨rfl,aE p F⟩
theorem BZ (a:Int)(t:List Bx)(ta:Oa)(u:Nat)(w:Wd)(s:jG w ta t)(r:1<=ln t)(hn0:0<=a)(hn1:a<=10000)(d:0<=(t[0]'om).i)(f:(t[0]'om).i<=10000):
 aW 287 #[I a,.slice ta (ln t) u] w λe w'=>e=rt (Sp.val ⟨0,a-(t[0]'om).i-1⟩)/\aG w w':=by
 rcases s with h|⟨l,off,rfl,k⟩;·subst h;simp at r
 have j:=k 0 om;obtain⟨c,b⟩:=cI (t[0]'om);rw[b]at j d f ⊢;clear b k;obtain⟨g,m,n,o,p,q⟩:=j;rw[Nat.zero_mul,naz]at g m n o p q;have hbl:l<w.heap.size:=aA g;have hl2:0<ln t:=om;go_enter func287,ntmps287;go_wp2;refine bpr (v:=Sp.val ⟨0,a-c.i-1⟩) ?_ rfl ⟨rfl,aC (br _ _) _⟩;simp[results,results287,go_sem]
variable {a:List Fx}{t:List Bx}{d w k:Int}
theorem KI (x:Wx)(a:List Cx)(b d:Int)(j:Nat):mL x a b d j=dK d (mL x a b 0 j):=by
 unfold mL dK;simp only[Bx.mk.injEq,true_and];constructor<;>omega
theorem vS (x:Wx)(i k d:Int)(a:0<=d)(b:d<=300):bL x i k d=dG d (bL x i k 0):=by
 have e:iN x d=iN x 0:=by
  unfold iN;have c:fQ d 0 300=true:=det ⟨a,b⟩;have f:fQ 0 0 300=true:=dz;rw[c,f]
 unfold bL;rw[e];split
 ·unfold qM dG;rw[List.map_map];exact List.map_congr_left λj _=>KI x _ _ d j
 ·rfl
theorem IX (x:Wx)(hx:0<=x.f)(b:0<=x.q)(i k:Int):∀c∈bL x i k 0,0<=c.i:=by
 unfold bL;split
 ·intro c a;obtain⟨j,_,rfl⟩:=lmm.1 a;have:0<=(j:Int)*x.q:=Int.mul_nonneg om b;show 0<=x.f+0+(j:Int)*x.q;omega
 ·intro c a;cases a
theorem IY (m:∀c∈t,0<=c.i)(hd:0<=d)(h:aQ a t=false):aQ a (dG d t)=false:=by
 rw[befq]at h ⊢;intro g;apply h;simp only[aQ,bat]at g ⊢;obtain⟨b,j,k,e⟩:=g;rw[dZ]at b;have hl:1<=ln t:=by simp only[oO,dte]at b;omega
 refine⟨b,?_,?_,?_⟩
 ·rw[lat];intro c f;have hc0:=m c f;have:=lat.1 j (dK d c) (lmm.2 ⟨c,f,rfl⟩);simp only[aK,dte]at this ⊢;simp only[dK]at this;omega
 ·refine(fO t).2 λi l=>?_;have:=(fO _).1 k i (by rw[dZ];exact l);rw[iQ,iQ]at this;simp only[dW,dte]at this ⊢;simp only[dK]at this;omega
 ·rw[l9 a (dG d t) (by rw[dZ];omega),iQ]at e;rw[l9 a t om];simp only[dZ]at e;exact e
theorem in_le (a:fJ t=true):∀(i:Nat) (h:i<ln t),(t[0]'om).i<=t[i].i
 |0,h=>ilr _
 |i+1,h=>by
  have h1:=in_le a i om;have b:=(fO t).1 a i h;simp only[dW,dte]at b;omega
theorem PQ (k:fJ t=true)(hl:1<=ln t):fY w (dG d t)=decide (¬d<=w-(t[0]'om).i-1):=by
 rw[beii,dte];unfold fY;rw[lat];constructor
 ·intro h;have e:decide (w<=(dK d (t[0]'om)).i)=true:=h (dK d (t[0]'om)) (lmm.2 ⟨_,lgm _,rfl⟩);have f:=of_decide_eq_true e;simp only[dK]at f;omega
 ·intro h c g;obtain⟨c',b,rfl⟩:=lmm.1 g;obtain⟨i,j,rfl⟩:=lgo b;have:=in_le k i j;show decide (w<=(dK d t[i]).i)=true;apply det;simp only[dK];omega
theorem NO {b:Bk}{x:Wx}{i k d:Int}(f:aO b=true)(a:0<=d)(c:d<=300)(e:aQ b.fl (bL x i k 0)=true)(j:1<=ln (bL x i k 0)):
 tK b x d i k=false↔(lF b x.n (bL x i k 0) d∨(0<=d/\d<=b.now-((bL x i k 0)[0]'om).i-1)):=by
 have l:fJ (bL x i k 0)=true:=by simp only[aQ,bat]at e;exact e.2.2.1
 unfold tK;rw[vS x i k d a c,PQ l j,zY f e a,EF];generalize aQ b.fl (dG d (bL x i k 0))=u,kC x.n (dG d (bL x i k 0)) b.hl=v;by_cases h:d<=b.now-((bL x i k 0)[0]'om).i-1
 ·rw[def0 (by simpa using h)];constructor;·intro _;exact .inr ⟨a,h⟩
  ·intro _;cases u<;>simp
 ·rw[det h];constructor;·intro g;left;simpa using g
  ·rintro(g|⟨_,g⟩);·simpa using g
   ·exact absurd g h
theorem LI (hx:0<=x.f)(e:0<=x.q)(a:0<=d)(c:d<=300)(g:aQ b.fl (bL x w k 0)=false):tK b x d w k=false:=by
 unfold tK;rw[vS x w k d a c,IY (IX x hx e w k) a g];rfl
end Go.Proofs.YtoolgmmljacfmaaGreatDoor
namespace Go.Proofs.YtoolgmmljacfmaaGreatDoor
open Go.Shelf
attribute [local go_sem] Oper.semAt_some
variable {a c:Int}{P:Int → Prop}{v:Va}{b:Bk}{x:Wx}{T:List Bx}{ta:Oa}{d z:Nat}
def qI (most:Int)(P:Int->Prop)(v:Value)(w:World):Prop:=∃ao cap l,v=.slice ao (List.length l) cap/\PB w ao l/\l.length<=20000/\∀d,0<=d->d<=most->(i8 l d↔P d)
theorem qI.zL {w w':Wd}(h:qI a P v w)(i:aG w w'):qI a P v w':=by
 obtain⟨c,b,l,d,e,f,g⟩:=h;exact⟨c,b,l,d,e.zL i,f,g⟩
theorem U8 (a:Int)(hmost:a<=300)(m:Sp)(P:Int->Prop)(v:Va)(w:Wd)(h:kS a P v w)(k:0<=m.lo)(n:m.hi<=10000):
 aW 171 #[v,m.val] w λe w'=>(∃r,e=rt r/\qI a (λd=>P d∨(m.lo<=d/\d<=m.hi)) r w')/\aG w w':=by
 obtain⟨t,i,l,rfl,y,j,z⟩:=h;refine(M6 10000 om l m t i w y ⟨j.c,λs o=>⟨(j.b s o).1,by have:=(j.b s o).2;omega⟩⟩ k n).mono ?_;rintro e w' ⟨⟨g,f,q,rfl,B,p,C⟩,A⟩;refine⟨⟨_,rfl,g,f,q,rfl,B,?_,λd u x=>by rw[C,z d u x]⟩,A⟩;have:=kV q 0 10000 p.c p.b;omega
def BPr (b:Bk)(x:Wx)(T:List Bx)(ta:Option Addr)(tc:Nat)(z:Nat)(i0:Int)(j:Nat)(v:Value)(w:World):Prop:=
 match j with
 |0=>v=b.val
 |1=>v=(E (z+1) 0)
 |2=>v=.string x.n
 |3=>v=.slice ta T.length tc
 |4=>v=(E (z+1) 5)
 |5=>v=I x.l
 |6=>kS x.l (lF b x.n T) v w
 |7=>v=(E z 0)
 |8=>v=I b.now
 |9=>v=.slice ta T.length tc
 |10=>v=Sp.val ⟨0,b.now-i0-1⟩
 |11=>qI x.l (λd=>lF b x.n T d∨(0<=d/\d<=b.now-i0-1)) v w
 |_=>True
theorem BPr.zL (j:Nat)(v:Va)(w w':Wd)(h:BPr b x T ta d z c j v w)(a:aG w w'):BPr b x T ta d z c j v w':=by
 unfold BPr at h ⊢;split
 all_goals first
  |exact h
  |exact kS.zL h a
  |exact qI.zL h a
  |trivial
theorem sp_row (W:Wd)(s:Sp)(t:Nat):Xs 2 Sp.cells (W.alloc (.cells #[I s.lo,I s.hi] t)) (some (Y W.heap.size 0)) [s]:=by
 refine .inr ⟨W.heap.size,0,rfl,λk b=>?_⟩;have:k=0:=by simpa using b
 subst this;intro j v a;match j,a with
 |0,a=>simp[Sp.cells]at a;subst a;simp
 |1,a=>simp[Sp.cells]at a;subst a;simp
theorem VP (n:Nat)(hn:4<=n)(b:Bk)(x:Wx)(i k:Int)(w:Wd)(hb:iX w b)(hx:iL w x)(S:aO b=true)(D:0<=b.now)(F:b.now<=10000)(zj:0<=x.l)(R:x.l<=300)(zk:0<=x.f)(zl:0<=x.q):
 CallsIn Fence.wide n Tryz.prog 278 #[b.val,x.val,gF 0 i k] w λe w'=>(∃v,e=rt v/\qI x.l (λd=>tK b x d i k=false) v w')/\aG w w':=by
 have h1n:1<=n:=om;have t:aG w (((w.alloc b.obj).alloc x.obj).alloc (jE 0 i k)):=aC (aC (aC (br _ _) _) _) _;have X:=(halq ((w.alloc b.obj).alloc x.obj) (jE 0 i k) w.heap.size so).trans ((halq (w.alloc b.obj) x.obj w.heap.size sm).trans (wnq w b.obj));have B:=wnq (w.alloc b.obj) x.obj;rw [wsa] at B;have X0:=(halq ((w.alloc b.obj).alloc x.obj) (jE 0 i k) (w.heap.size+1) sm).trans B;clear B;obtain ⟨T,C⟩:=cI (bL x i k 0);have O:ln T<=1048576:=by rw [←C];have:=uQ x i k 0;omega
 obtain ⟨v1,g1⟩:∃v,aQ b.fl T=v:=⟨_,rfl⟩;have V:=aI C;have G:=aI g1;clear C g1;refine cow Tryz.func278 rfl trivial ?_ rfl;simp only [Tryz.ntmps278,lsz,llc,lln,Nat.reduceAdd,Nat.reduceSub,ars,arz,lpt,lap,lna,lca];gi_wp2_with fail;refine ⟨trivial,?_⟩;obtain ⟨W0,Q⟩:=cI (((w.alloc b.obj).alloc x.obj).alloc (jE 0 i k));rw [Q] at t X X0 ⊢;clear Q;refine (cw.2 (sD x i k 0 W0 (hx.hi.zL t) hx.hc hx.hf.yn)).mono ?_;rintro e w1 ⟨⟨v,rfl,hO⟩,u⟩;rw [V.oQ] at hO;obtain ⟨ta,H,rfl,hB⟩:=hO.slice;have Z:=btq u X;have X1:=btq u X0;have N1:=aE t u;have k1:w1.cell? (ya w 1)=some (fs b):=aB Z rfl;have J:Hid _:=Z;have K:Hid _:=X1;clear X X0 Z X1 t u hO;gi_wp2_with fail;refine ⟨trivial,?_⟩;refine (cw.2 (pT b.fl T _ _ _ _ _ (hb.hf.zL N1) hB hb.hnf O)).mono ?_;rintro e w2 ⟨rfl,g⟩;rw [G.out];have N2:=aE N1 g;have M:=hB.zL g;have B2:=btq g J.oQ;have X2:=btq g K.oQ;obtain ⟨m0,m1,m2⟩:=aM B2;have m3:w2.cell? (Y (w.heap.size+1) 0)=some (.string x.n):=aB X2 rfl;have m4:w2.cell? (Y (w.heap.size+1) 5)=some (I x.l):=aB X2 rfl;clear J K N1 hB g k1 B2 X2;cases v1 with
 |false=>
  have zd:Hid (∀d,0<=d->d<=x.l->(i8 [⟨0,x.l⟩] d↔tK b x d i k=false)):=λd r z=>
   ⟨λ_=>LI zk zl r om (by rw [V.oQ];exact G.out),λ_=>⟨_,lms.2 rfl,r,z⟩⟩
  gi_wp2_with fail;refine ⟨trivial,?_⟩;refine (cw.2 (nN x.l w2)).mono ?_;rintro e W ⟨rfl,zh⟩;have N3:=aE N2 zh;have HR:PB (W.alloc (.cells #[I 0,I x.l] 175)) (some (ya W 0)) [⟨0,x.l⟩]:=⟨sp_row W ⟨0,x.l⟩ 175,.inr ⟨_,_,_,rfl,wnq W _⟩⟩;have ze:Hid _:=HR;clear HR;gi_wp2;go_ret;exact ⟨⟨_,rfl,_,_,[⟨0,x.l⟩],rfl,ze.oQ,sm,zd.oQ⟩,aC N3 _⟩
 |true=>
 have P:1<=ln T:=by
  have:=G.out;simp only [aQ,oO,bat,dte] at this;omega
 have zi:aK (T[0]'om)=true:=by
  have:=G.out;simp only [aQ,bat] at this;exact lat.1 this.2.1 _ (lgm _)
 have N:0<=(T[0]'om).i/\(T[0]'om).i<=10000:=by simp only [aK,dte] at zi;omega
 have zb:Hid (∀d,0<=d->d<=x.l->(tK b x d i k=false↔(lF b x.n T d∨(0<=d/\d<=b.now-(T[0]'om).i-1)))):=λd r z=>by
  have C:=V.oQ;have h:=NO (b:=b) (x:=x) (i:=i) (k:=k) (d:=d) S r om (by rw [C];exact G.out) (by rw [C];exact P);simp only [C] at h;exact h
 have za:Hid (aQ b.fl T=true):=G.out;clear V;gi_wp2_with fail
 refine j6 kr 12 rfl (λa=>{ tmps:=#[b.val,x.val,gF 0 i k,ea w 0,E (w.heap.size+1) 0,E (w.heap.size+1+1) 0,ms,.slice ta (ln T) H,.agg #[.string x.n,I x.q,I x.s,I x.f,I x.b,I x.l,.slice x.wa (ln x.wl) x.wc,.slice x.la (ln x.ll) x.lc],E (w.heap.size+1+1) 1,I i,E (w.heap.size+1+1) 2,I k,E (w.heap.size+1+1) 0,I 0,.slice ta (ln T) H,ea w 1,fs b,.slice ta (ln T) H,.bool true,.bool false,undef,undef,undef,undef,a 0,a 1,a 2,a 3,a 4,a 5,a 6,a 7,a 8,a 9,a 10,a 11],defers:=[] }) (λ_=>undef)
  (BPr b x T ta H w.heap.size (T[0]'om).i) BPr.zL (GN kr) (zQ kr) ?step ?fin
 case step=>
  intro j o a w' hj y c p;have n0:=ctq c m0;have n1:=ctq c m1;have n2:=ctq c m2;have n3:=ctq c m3;have n4:=ctq c m4;have zg:=aE N2 c;match j,hj with
  |0,_|1,_|3,_|4,_|7,_|9,_=>
   cases y;gi_wp2;exact ⟨_,uhx,rfl,br _ _⟩
  |2,_=>
   cases y;have z:a 1=_:=Zq p 1;rw [z];gi_wp2;exact ⟨_,by simp [aH,z],rfl,br _ _⟩
  |5,_=>
   cases y;have d4:a 4=_:=Zq p 4;rw [d4];gi_wp2;exact ⟨_,by simp [aH,d4],rfl,br _ _⟩
  |6,_=>
   cases y;have r:a 0=_:=Zq p 0;have d2:a 2=_:=Zq p 2;have d3:a 3=_:=Zq p 3;have d5:a 5=_:=Zq p 5;rw [r,d2,d3,d5];gi_wp2_with fail;refine ⟨trivial,?_⟩;refine (cw.2 (tX b x.n T ta H x.l zj R w' ((hb.zL zg).with (M.zL c) O) S za.out)).mono ?_;rintro e w4 ⟨⟨v,rfl,U⟩,m⟩;have A:Hid _:=U;clear U;gi_wp2;exact ⟨_,by simp [aH,r,d2,d3,d5],A.oQ,m⟩
  |8,_=>
   cases y;have d7:a 7=_:=Zq p 7;rw [d7];gi_wp2;exact ⟨_,by simp [aH,d7],rfl,br _ _⟩
  |10,_=>
   cases y;have d8:a 8=_:=Zq p 8;have d9:a 9=_:=Zq p 9;rw [d8,d9];gi_wp2_with fail;refine ⟨trivial,?_⟩;refine (cw.2 (BZ b.now T ta H w' (M.zL c) P D F N.1 N.2)).mono ?_;rintro e w4 ⟨rfl,m⟩;gi_wp2;exact ⟨_,by simp [aH,d8,d9],rfl,m⟩
  |11,_=>
   cases y;have d6:kS x.l (lF b x.n T) (a 6) w':=Zq p 6;have L:a 10=_:=Zq p 10;have zc:Hid _:=d6;clear d6;rw [L];gi_wp2_with fail;refine ⟨trivial,?_⟩;refine (cw.2 (U8 x.l R ⟨0,b.now-(T[0]'om).i-1⟩ _ (a 6) w' zc.oQ (ilr _) (by show b.now-_-1<=10000;omega))).mono ?_;rintro e w4 ⟨⟨v,rfl,U⟩,m⟩;have A:Hid _:=U;clear U;gi_wp2;exact ⟨_,by simp [aH,L],A.oQ,m⟩
  |j+12,h=>omega
 case fin=>
  intro o a w' y c hp;cases y;have HF:Hid (qI x.l (λd=>lF b x.n T d∨(0<=d/\d<=b.now-(T[0]'om).i-1)) (a 11) w'):=hp 11 dz;clear hp;gi_wp2;go_ret;obtain ⟨ao,zf,l,e,hX,hl,hm⟩:=HF.oQ;exact ⟨⟨_,rfl,ao,zf,l,e,hX,hl,λd r z=>(hm d r z).trans (zb.oQ d r z).symm⟩,aE N2 c⟩
end Go.Proofs.YtoolgmmljacfmaaGreatDoor
namespace Go.Proofs.YtoolgmmljacfmaaGreatDoor
open Go.Shelf
theorem DQ (x:Wx)(w:Wd):
 aW 256 #[x.val] w λe w'=>e=rt (.func (.func 279) #[] #[E w.heap.size 0])/\aG w w'/\w'.heap[w.heap.size]?=some x.obj:=by
 have H:Hid (aG w (w.alloc x.obj)/\(w.alloc x.obj).heap[w.heap.size]?=some x.obj):=⟨aC (br _ _) _,wnq w x.obj⟩;go_enter Tryz.func256,Tryz.ntmps256;go_wp2;go_ret;exact⟨rfl,H.oQ⟩
theorem zI (b:Bk)(x:Wx)(w:Wd):
 aW 213 #[b.val,x.val] w λe w'=>e=rt (.func (.func 254) #[] #[E w.heap.size 0,E (w.heap.size+1) 0])/\aG w w'/\w'.heap[w.heap.size]?=some b.obj/\w'.heap[w.heap.size+1]?=some x.obj:=by
 have a:=wnq (w.alloc b.obj) x.obj;rw[wsa]at a
 have H:Hid (aG w ((w.alloc b.obj).alloc x.obj)/\((w.alloc b.obj).alloc x.obj).heap[w.heap.size]?=some b.obj/\((w.alloc b.obj).alloc x.obj).heap[w.heap.size+1]?=some x.obj):=
  ⟨aC (aC (br _ _) _) _,(halq _ _ _ sm).trans (wnq w b.obj),a⟩
 clear a;go_enter Tryz.func213,Tryz.ntmps213;go_wp2;go_ret;exact⟨rfl,H.oQ⟩
end Go.Proofs.YtoolgmmljacfmaaGreatDoor
namespace Go.Proofs.YtoolgmmljacfmaaGreatDoor
variable {w:Wd}{p:Nat}{v:Va}{b:Bk}{x:Wx}{d i:Int}{a:List Fx}
theorem Tryz.info79:(Tryz.prog.info? 79).map (λi=>(i.zero,i.size,i.bytes))=some (some (.agg #[I 0,I 0,I 0]),3,24):=kr
structure Co where
 d:Int
 i:Int
 k:Int
def Co.cells (c:Co):List Value:=[I c.d,I c.i,I c.k]
abbrev Co.val (c:Co):Value:=gF c.d c.i c.k
abbrev Co.obj (c:Co):Obj:=jE c.d c.i c.k
def lJ:List Co->List Value
 |[]=>[]
 |s::r=>s.cells++lJ r
theorem vK:∀(l r:List Co),lJ (l++r)=lJ l++lJ r
 |[],r=>rfl
 |a::l,r=>by simp[lJ,vK l r]
theorem EV:∀(l:List Co) (i:Nat) (h:i<ln l) (j:Nat),j<3->(lJ l)[i*3+j]?=(l[i].cells)[j]?
 |[],i,h,j,hj=>by simp at h
 |a::r,0,h,j,hj=>by
  rw[lJ,lgl (by simp[Co.cells];omega)];simp
 |a::r,i+1,h,j,hj=>by
  have h':i<ln r:=by simpa using h
  rw[lJ,lgr (by simp[Co.cells];omega)];have e:(i+1)*3+j-ln (Co.cells a)=i*3+j:=by simp[Co.cells];omega
  rw[e,EV r i h' j hj];rfl
theorem ZG {l:List Co} (h:w.ownsRow p 79 3 v (ln l) (lJ l)):∃e a,v=.slice e (ln l) a/\Xs 3 Co.cells w e l/\(ln l)<=a:=by
 rcases h.2 with⟨b,i⟩|⟨g,a,cur,b,hb,hg,d,_,n,ht⟩;·exact⟨none,0,by rw[b,i],Or.inl (enl i),om⟩
 ·refine⟨some (Y g 0),a,b,Or.inr ⟨g,0,rfl,λk m j u f=>?_⟩,d⟩;have c:j<3:=(lgs.1 f).1;have:=h.cells (g:=g) (by rw[b];rfl) (k*3+j) u (by rw[EV l k m j c];exact f);rw[aal,nza]at this;rw[nza];exact this
theorem co_new (W:Wd)(g:Nat)(b:g=W.heap.size)(s:Co):∀j u,(s.cells)[j]?=some u->(W.alloc s.obj).cell? (((Y g 0):Addr).add j)=some u:=by
 subst b;intro j u a;match j,a with
 |0,a=>simp[Co.cells]at a;subst a;simp[Addr.add]
 |1,a=>simp[Co.cells]at a;subst a;simp[Addr.add]
 |2,a=>simp[Co.cells]at a;subst a;simp[Addr.add]
 |n+3,a=>simp[Co.cells]at a
def lM (b:Bk)(x:Wx)(d i:Int)(k:Nat):List Co:=((List.range k).filter λ(j:Nat)=>tK b x d i (j:Int)).map λ(j:Nat)=>⟨d,i,(j:Int)⟩
def mS (b:Bk)(x:Wx)(d:Int)(i:Nat):List Co:=(List.range i).flatMap λ(j:Nat)=>lM b x d (j:Int) x.ll.length
def gV (b:Bk)(x:Wx)(n:Nat):List Co:=(List.range n).flatMap λ(j:Nat)=>mS b x (j:Int) x.wl.length
def tH (b:Bk)(x:Wx):List Co:=if aO b&&eR b.fl x then gV b x (x.l.toNat+1)else[]
theorem MD (h:tK b x d i (p:Int)=true):lM b x d i (p+1)=lM b x d i p++[⟨d,i,(p:Int)⟩]:=by
 unfold lM;rw[List.range_succ,lfa,lmp];simp[h]
theorem QY (h:tK b x d i (p:Int)=false):lM b x d i (p+1)=lM b x d i p:=by
 unfold lM;rw[List.range_succ,lfa,lmp];simp[h]
theorem xL (b:Bk)(x:Wx)(d:Int)(i:Nat):mS b x d (i+1)=mS b x d i++lM b x d (i:Int) (ln x.ll):=by
 unfold mS;rw[List.range_succ,lfm];simp
theorem uG (b:Bk)(x:Wx)(n:Nat):gV b x (n+1)=gV b x n++mS b x (n:Int) (ln x.wl):=by
 unfold gV;rw[List.range_succ,lfm];simp
theorem yM (b:Bk)(x:Wx)(d i:Int)(k:Nat):ln (lM b x d i k)<=k:=by
 unfold lM;rw[List.length_map];exact nlt (List.length_filter_le _ _) sm
theorem rQ (b:Bk)(x:Wx)(h:ln x.ll<=6)(d:Int):∀i,ln (mS b x d i)<=6*i
 |0=>by simp[mS]
 |i+1=>by
  have:=rQ b x h d i;have:=yM b x d (i:Int) (ln x.ll);rw[xL,lla];omega
theorem wH (b:Bk)(x:Wx)(h:ln x.ll<=6)(a:ln x.wl<=3):∀n,ln (gV b x n)<=18*n
 |0=>by simp[gV]
 |n+1=>by
  have:=wH b x h a n;have:=rQ b x h (n:Int) (ln x.wl);rw[uG,lla];omega
theorem CL (h:eR a x=true):ln x.wl<=3/\(ln x.ll)<=6/\0<=x.l/\x.l<=300:=by
 simp only[eR,n6,jD,tR,pK,GJ,bat,dte]at h;omega
theorem pX (h:iX w b)(v:Bool)(a:aO b=v):aW 26 #[b.val] w λe w'=>e=rt (.bool v)/\aG w w':=
 vZ (h.with (t:=[]) (ta:=none) (.inl rfl) sm) v a
theorem zE (b:Bk)(x:Wx)(w:Wd)(X:iX w b)(hx:iL w x):
 aW 104 #[b.val,x.val] w λe w'=>(∃v,e=rt v/\w'.ownsRow (w.heap.size+2) 79 3 v (ln (tH b x)) (lJ (tH b x)))/\aG w w':=by
 obtain⟨i0,zj,zp,zq,zr⟩:=info_parts Tryz.info79;have H:aG w (((w.alloc b.obj).alloc x.obj).alloc (.cells #[] 79)):=aC (aC (aC (br _ _) _) _) _;have B0:=(halq ((w.alloc b.obj).alloc x.obj) (.cells #[] 79) w.heap.size so).trans ((halq (w.alloc b.obj) x.obj w.heap.size sm).trans (wnq w b.obj));have L:=wnq (w.alloc b.obj) x.obj;rw[wsa]at L;have X0:=(halq ((w.alloc b.obj).alloc x.obj) (.cells #[] 79) (w.heap.size+1) sm).trans L;clear L
 have j:(((w.alloc b.obj).alloc x.obj).alloc (.cells #[] 79)).ownsRow (w.heap.size+2) 79 3 (sl (w.heap.size+1+1) 0 0 0) 0 (lJ []):=by
  simpa[lJ]using World.ownsRow_lit (base:=w.heap.size+2) (e:=79) (size:=3) ((w.alloc b.obj).alloc x.obj) #[] 0 sm (nz _) rfl
 have C:(((w.alloc b.obj).alloc x.obj).alloc (.cells #[] 79)).heap.size=w.heap.size+3:=by simp
 obtain⟨v1,g1⟩:∃v,aO b=v:=⟨_,rfl⟩;obtain⟨v2,g2⟩:∃v,eR b.fl x=v:=⟨_,rfl⟩;obtain⟨T,hT⟩:=bQ (tH b x);rw[←hT];have HT:Hid (T=if v1&&v2 then gV b x (x.l.toNat+1)else[]):=by rw[Hid,hT,tH,g1,g2]
 have G1:Hid _:=g1;have G2:Hid _:=g2;clear hT g1 g2
 go_enter Tryz.func104,Tryz.ntmps104
 go_wp2_with fail
 obtain⟨W0,W⟩:=cI (((w.alloc b.obj).alloc x.obj).alloc (.cells #[] 79));rw[W]at H B0 X0 j C ⊢;clear W;refine(pX (X.zL H) v1 G1.out).mono ?_;rintro e w1 ⟨rfl,t⟩;have B1:=btq t B0;have X1:=btq t X0;have V:=aE H t;have o:=dC j t;have za:=t.size;rw[C]at za;clear j t B0 X0 H C
 cases v1 with
 |false=>
  go_wp2
  go_ret;exact⟨⟨_,rfl,by rw[HT.oQ];exact o⟩,V⟩
 |true=>
 have k1:w1.cell? (ya w 1)=some (fs b):=aB B1 rfl;obtain⟨q0,q1,q2,q3,q4,q5,q6,q7⟩:=gT X1;have Q:Hid _:=B1;have U:Hid _:=X1;clear B1 X1;go_wp2_with fail
 refine(wN b.fl x b.fa b.fc w1 (X.hf.zL V) X.hnf X.hs (hx.hi.zL V) hx.hf).mono ?_;rintro e N ⟨rfl,y⟩;rw[G2.out];have O:=btq y Q.oQ;have r:=btq y U.oQ;have N2:=aE V y;have p:=dC o y;have zb:=y.size;have zb:w.heap.size+3<=N.heap.size:=om
 clear o y Q U V k1 q0 q1 q2 q3 q4 q5 q6 q7 za
 cases v2 with
 |false=>
  go_wp2
  go_ret;exact⟨⟨_,rfl,by rw[HT.oQ];exact p⟩,N2⟩
 |true=>
 obtain⟨zn,Z,hl0,hl1⟩:=CL G2.out;have D:Hid (N.heap[w.heap.size]?=some b.obj/\N.heap[w.heap.size+1]?=some x.obj):=⟨O,r⟩;clear O r G1 G2;have zf:Hid (T=gV b x (x.l.toNat+1)):=by rw[Hid,HT.oQ];rfl
 clear HT;go_wp2
 go_loopw [5,6] (λv5 i wr=>∃n:Nat,(n:Int)<=x.l+1/\i=I n/\wr.ownsRow (w.heap.size+2) 79 3 v5 (ln (gV b x n)) (lJ (gV b x n))/\Below (w.heap.size+2) N wr) (λ_ i _=>(x.l+1-intOf i).toNat)
 case atStart=>exact⟨0,om,rfl,p,br _ _⟩
 case round=>
  clear p;obtain⟨n,hn,rfl,a,d⟩:=hrel;have K:aG w wr:=N2.trans (d.mono om);have r:wr.heap[w.heap.size+1]?=some x.obj:=(d.block _ om).trans D.oQ.2;have q5:wr.cell? (Y (w.heap.size+1) 5)=some (I x.l):=aB r rfl;have zd:=aI (wH b x Z zn n);clear r
  by_cases hlt:(n:Int)<=x.l
  ·go_wp2
   clear q5
   go_loopw [5,7] (λv5 i ws=>∃m:Nat,m<=ln x.wl/\i=I m/\ws.ownsRow (w.heap.size+2) 79 3 v5 (ln (gV b x n++mS b x n m)) (lJ (gV b x n++mS b x n m))/\Below (w.heap.size+2) N ws) (λ_ i _=>ln x.wl-(intOf i).toNat)
   case atStart=>exact⟨0,om,rfl,by simpa[mS]using a,d⟩
   case round=>
    clear a d K;obtain⟨m,hm,rfl,a,d⟩:=hrel;have K:aG w wr:=N2.trans (d.mono om);have r:wr.heap[w.heap.size+1]?=some x.obj:=(d.block _ om).trans D.oQ.2;have q6:wr.cell? (Y (w.heap.size+1) 6)=some (.slice x.wa (ln x.wl) x.wc):=aB r rfl;have zg:=aI (rQ b x Z n m);clear r
    by_cases hmt:m<ln x.wl
    ·go_wp2
     clear q6
     go_loopw [5,8] (λv5 i ws=>∃k:Nat,k<=ln x.ll/\i=I k/\ws.ownsRow (w.heap.size+2) 79 3 v5 (ln (gV b x n++mS b x n m++lM b x n m k)) (lJ (gV b x n++mS b x n m++lM b x n m k))/\Below (w.heap.size+2) N ws) (λ_ i _=>ln x.ll-(intOf i).toNat)
     case atStart=>exact⟨0,om,rfl,by simpa[lM]using a,d⟩
     case round=>
      clear a d K;obtain⟨k,hk,rfl,a,d⟩:=hrel;have K:aG w wr:=N2.trans (d.mono om);have O:wr.heap[w.heap.size]?=some b.obj:=(d.block _ om).trans D.oQ.1;have r:wr.heap[w.heap.size+1]?=some x.obj:=(d.block _ om).trans D.oQ.2;have q7:wr.cell? (Y (w.heap.size+1) 7)=some (.slice x.la (ln x.ll) x.lc):=aB r rfl;have hwz:w.heap.size+3<=wr.heap.size:=nlt zb d.size;have zc:=aI (yM b x n m k)
      by_cases hkt:k<ln x.ll
      ·have g:aG wr (wr.alloc (jE n m k)):=aC (br _ _) _
       have B3:=(g.block _ om).trans O;have F:=(g.block _ om).trans r;have P:=wnq wr (jE n m k);have p0:(wr.alloc (jE n m k)).cell? (ya w 0)=some (I b.now):=aB B3 rfl;have p1:(wr.alloc (jE n m k)).cell? (ya w 1)=some (fs b):=aB B3 rfl;have p2:(wr.alloc (jE n m k)).cell? (ya w 2)=some (hs b):=aB B3 rfl;have q0:(wr.alloc (jE n m k)).cell? (Y (w.heap.size+1) 0)=some (.string x.n):=aB F rfl;have q1:(wr.alloc (jE n m k)).cell? (Y (w.heap.size+1) 1)=some (I x.q):=aB F rfl;have q2:(wr.alloc (jE n m k)).cell? (Y (w.heap.size+1) 2)=some (I x.s):=aB F rfl;have q3:(wr.alloc (jE n m k)).cell? (Y (w.heap.size+1) 3)=some (I x.f):=aB F rfl;have q4:(wr.alloc (jE n m k)).cell? (Y (w.heap.size+1) 4)=some (I x.b):=aB F rfl;have q5:(wr.alloc (jE n m k)).cell? (Y (w.heap.size+1) 5)=some (I x.l):=aB F rfl;have q6:(wr.alloc (jE n m k)).cell? (Y (w.heap.size+1) 6)=some (.slice x.wa (ln x.wl) x.wc):=aB F rfl;have q8:(wr.alloc (jE n m k)).cell? (Y (w.heap.size+1) 7)=some (.slice x.la (ln x.ll) x.lc):=aB F rfl;have r0:(wr.alloc (jE n m k)).cell? (ya wr 0)=some (I n):=aB P rfl;have r1:(wr.alloc (jE n m k)).cell? (ya wr 1)=some (I m):=aB P rfl;have r2:(wr.alloc (jE n m k)).cell? (ya wr 2)=some (I k):=aB P rfl;have R:Hid _:=P;clear r O F B3 P;obtain⟨cv,M⟩:∃v,tK b x n m k=v:=⟨_,rfl⟩;have S:Hid _:=M;go_wp2_with fail
       refine(SZ b x n m k _ (X.zL (aE K g)) (hx.zL (aE K g))).mono ?_;rintro e w3 ⟨rfl,J⟩;rw[M];have c:=dC (dC a g) J;have G:=bI (bI d om g) om J;have C4:=btq J R.oQ;obtain⟨r0,r1,r2⟩:=aM C4;clear M a d K g p0 p1 p2 q0 q1 q2 q3 q4 q5 q6 q7 q8 J C4 R;have h3z:=G.size
       have hLen:ln (gV b x n++mS b x n m++lM b x n m k)<=10000:=by
        have h1:=zd.oQ;have h2:=zg.oQ;have h3:=zc.oQ;simp only[lla];omega
       cases cv with
       |false=>
        go_wp2
        go_roundw
        case rel=>exact⟨k+1,om,gn,by rw[QY S.oQ];exact c,G⟩
        case measure=>simp[intOf];omega
       |true=>
        go_wp2_with (at_builtin;refine wpList_append_own_at _ rfl (.tmp 50) (.tmp 52) 149 rfl (w.heap.size+2) 79 i0 _ 3 24 Tryz.underlying149 zj zp zq zr rfl dz _ _ _ rfl (c.alloc _) (ya w3 0) 1 1 (Co.cells ⟨n,m,k⟩) rfl rfl ?qc1 ?qc2 ?qc3 ?qc4 ?qc5 ?_)
        case qc1=>first|exact λ_ _ h=>h|exact co_new _ _ rfl ⟨n,m,k⟩
        case qc2=>intro u hu;simp[Co.cells]at hu;rcases hu with rfl|rfl|rfl<;>rfl
        case qc3=>unfold maxLen;omega
        case qc4=>omega
        case qc5=>simp;omega
        intro v' w4 A z _ zi
        have B:w4.ownsRow (w.heap.size+2) 79 3 v' (ln (gV b x n++mS b x n m++lM b x n m (k+1))) (lJ (gV b x n++mS b x n m++lM b x n m (k+1))):=by
         rw[MD S.oQ,←las,vK,lla];simpa[lJ]using A
        have zh:Below (w.heap.size+2) N w4:=kL (mG G om _) om z (λk e=>(c.lt k e).1);have ze:Hid _:=B;clear z A zi c G B;go_wp2
        go_roundw
        case rel=>exact⟨k+1,om,gn,ze.oQ,zh⟩
        case measure=>simp[intOf];omega
      ·have zk:k=ln x.ll:=om
       subst zk;clear r O;go_wp2
       go_roundw
       case rel=>exact⟨m+1,om,gn,by rw[xL,←las];exact a,d⟩
       case measure=>simp[intOf];omega
    ·have zl:m=ln x.wl:=om
     subst zl;go_wp2
     go_roundw
     case rel=>exact⟨n+1,om,gn,by rw[uG];exact a,d⟩
     case measure=>simp[intOf];omega
  ·have zm:n=x.l.toNat+1:=om
   have HO:Hid (wr.ownsRow (w.heap.size+2) 79 3 u5 (ln T) (lJ T)):=by rw[Hid,zf.oQ,←zm];exact a
   clear a;go_wp2
   go_ret;exact⟨⟨_,rfl,HO.oQ⟩,K⟩
variable {b a:Nat}{c:Co}
def gX:List Co->Value
 |[]=>.tuple #[gF 0 0 0,.bool false]
 |c::_=>.tuple #[gF c.d c.i c.k,.bool true]
theorem co_at (h:bC w b a c.cells):w.cell? (Y b a)=some (I c.d)/\w.cell? (Y b (a+1))=some (I c.i)/\w.cell? (Y b (a+2))=some (I c.k):=
 ⟨h 0 _ rfl,h 1 _ rfl,h 2 _ rfl⟩
theorem GV (b:Bk)(x:Wx)(w:Wd)(C:iX w b)(hx:iL w x):
 aW 63 #[b.val,x.val] w λe w'=>e=rt (gX (tH b x))/\aG w w':=by
 have d:aG w (((w.alloc b.obj).alloc x.obj).alloc (jE 0 0 0)):=aC (aC (aC (br _ _) _) _) _;have f:=wnq ((w.alloc b.obj).alloc x.obj) (jE 0 0 0);rw[wsa,wsa]at f;obtain⟨L,k⟩:=cI (tH b x);rw[k];have u:Hid _:=k;clear k;go_enter Tryz.func63,Tryz.ntmps63;go_wp2_with fail;obtain⟨W0,j⟩:=cI (((w.alloc b.obj).alloc x.obj).alloc (jE 0 0 0));rw[j]at d f ⊢;clear j;refine(zE b x W0 (C.zL d) (hx.zL d)).mono ?_;rintro e w1 ⟨⟨v,rfl,l⟩,g⟩;rw[u.oQ]at l;have m:=aE d g;have n:=btq g f;obtain⟨ao,cap,rfl,B,_⟩:=ZG l;clear l g f d;obtain⟨q,s,t⟩:=aM n;have a:w.heap.size<=w.heap.size+1+1:=om;have rf:=jS n;cases L with
 |nil=>
  simp only[lln];go_wp2;refine bpr (v:=gX []) ?_ rfl ⟨rfl,((m.setCell (p:=(Y (w.heap.size+1+1) 0)) a _).setCell (p:=(Y (w.heap.size+1+1) 1)) a _).setCell (p:=(Y (w.heap.size+1+1) 2)) a _⟩;simp[results,Tryz.results63,go_sem,gX,q,s,t]
 |cons c r=>
  rcases B with h|⟨bl,off,rfl,o⟩;·cases h
  have i:=o 0 sm;rw[Nat.zero_mul,naz]at i;obtain⟨y,z,A⟩:=co_at i;simp only[List.getElem_cons_zero]at y z A;clear o i;simp only[llc];go_wp2;refine bpr (v:=gX (c::r)) ?_ rfl ⟨rfl,((m.setCell (p:=(Y (w.heap.size+1+1) 0)) a _).setCell (p:=(Y (w.heap.size+1+1) 1)) a _).setCell (p:=(Y (w.heap.size+1+1) 2)) a _⟩;simp[results,Tryz.results63,go_sem,gX,q,s,t]
end Go.Proofs.YtoolgmmljacfmaaGreatDoor
namespace Go.Proofs.YtoolgmmljacfmaaGreatDoor
open Go.Shelf
attribute [local go_sem] Oper.semAt_some
variable {L d k m a n i:Nat}
abbrev CoB (L:Nat):={ c:Co//0<=c.d/\c.d<=(L:Int)}
def L6 (L d i k:Nat):CoB L:=⟨⟨((min d L:Nat):Int),(i:Int),(k:Int)⟩,by constructor<;>simp only<;>omega⟩
theorem zW (i k:Nat)(h:d<=L):(L6 L d i k).1=⟨(d:Int),(i:Int),(k:Int)⟩:=by
 simp only[L6,Nat.min_eq_left h]
def x8 (L d i k:Nat):List (CoB L):=(List.range k).map (L6 L d i)
def xS (L ln d i:Nat):List (CoB L):=(List.range i).flatMap λj=>x8 L d j ln
def kX (L wn ln n:Nat):List (CoB L):=(List.range n).flatMap λj=>xS L ln j wn
theorem sR (L d i k:Nat):x8 L d i (k+1)=x8 L d i k++[L6 L d i k]:=by
 unfold x8;rw[List.range_succ,lmp];rfl
theorem sN (L a d i:Nat):xS L a d (i+1)=xS L a d i++x8 L d i a:=by
 unfold xS;rw[List.range_succ,lfm];simp
theorem pN (L b a n:Nat):kX L b a (n+1)=kX L b a n++xS L a n b:=by
 unfold kX;rw[List.range_succ,lfm];simp
theorem WK (L d i:Nat)(h:k<=m):x8 L d i k<+:x8 L d i m:=by
 induction m with
 |zero=>rw[Nat.le_zero.1 h];exact List.prefix_refl _
 |succ m ih=>
  by_cases e:k=m+1;·rw[e];exact List.prefix_refl _
  ·rw[sR];exact(ih om).trans (List.prefix_append _ _)
theorem YW (L a d:Nat)(h:k<=m):xS L a d k<+:xS L a d m:=by
 induction m with
 |zero=>rw[Nat.le_zero.1 h];exact List.prefix_refl _
 |succ m ih=>
  by_cases e:k=m+1;·rw[e];exact List.prefix_refl _
  ·rw[sN];exact(ih om).trans (List.prefix_append _ _)
theorem SK (L b a:Nat)(h:k<=m):kX L b a k<+:kX L b a m:=by
 induction m with
 |zero=>rw[Nat.le_zero.1 h];exact List.prefix_refl _
 |succ m ih=>
  by_cases e:k=m+1;·rw[e];exact List.prefix_refl _
  ·rw[pN];exact(ih om).trans (List.prefix_append _ _)
theorem at_pre (c:d<n)(e:i<m)(f:k<=a):kX L m a d++xS L a d i++x8 L d i k<+:kX L m a n:=by
 refine List.IsPrefix.trans ?_ (SK L m a (Nat.succ_le_of_lt c));rw[pN,las];refine(List.prefix_append_right_inj _).2 ?_;refine List.IsPrefix.trans ?_ (YW L a d (Nat.succ_le_of_lt e));rw[sN];exact(List.prefix_append_right_inj _).2 (WK L d i f)
theorem CC (n:Nat)(Bx L:Nat)(x:Wx)(N:x.l=(L:Int))(hL2:L<=300)(K:x.Fit)(R:Wd->Wd->Prop)(O:∀W F,R W F->W.heap[Bx]?=some x.obj->F.heap[Bx]?=some x.obj)(w:Wd)(M:w.heap[Bx]?=some x.obj):
 SeqStopsK Fence.wide n Tryz.prog 279 #[E Bx 0] (λc:CoB L=>#[c.1.val]) R (λU=>U=kX L (ln x.wl) (ln x.ll) (L+1)) (λD=>D<+:kX L (ln x.wl) (ln x.ll) (L+1)) (ln (kX L (ln x.wl) (ln x.ll) (L+1))) w:=λlp J Jx W P hJ _ H G=>by
 have g:W.heap[Bx]?=some x.obj:=btq P M;have Q:W.cell? (Y Bx 5)=some (I (L:Int)):=by rw[←N];exact aB g rfl
 have hwn:=K.wn;have hln:=K.ln;refine cow Tryz.func279 rfl trivial ?_ rfl;simp only[Tryz.ntmps279,lsz,llc,lln,Nat.reduceAdd,Nat.reduceSub,ars,arz,lpt,lap,lna,lca];gi_wp2;clear Q;gi_loopw [9] (λi wr=>∃d:Nat,d<=L+1/\i=I d/\J (kX L (ln x.wl) (ln x.ll) d) wr/\wr.heap[Bx]?=some x.obj) (λi _=>L+1-(intOf i).toNat);case atStart=>exact⟨0,nz _,rfl,G,g⟩
 case round=>
  clear g G;obtain⟨d,hd,rfl,a,b⟩:=hrel;by_cases A:d<L+1
  ·have S:wr.cell? (Y Bx 6)=some (.slice x.wa (ln x.wl) x.wc):=aB b rfl;have q:(d:Int)<(L:Int)+1:=om;gi_wp2;clear S;gi_loopw [15] (λi s=>∃m:Nat,m<=ln x.wl/\i=I m/\J (kX L (ln x.wl) (ln x.ll) d++xS L (ln x.ll) d m) s/\s.heap[Bx]?=some x.obj) (λi _=>ln x.wl-(intOf i).toNat);case atStart=>exact⟨0,nz _,rfl,by simpa[xS]using a,b⟩
   case round=>
    clear a b;obtain⟨m,hm,rfl,a,b⟩:=hrel;by_cases B:m<ln x.wl
    ·have T:wr.cell? (Y Bx 7)=some (.slice x.la (ln x.ll) x.lc):=aB b rfl;gi_wp2;clear T;gi_loopw [21] (λi s=>∃k:Nat,k<=ln x.ll/\i=I k/\J (kX L (ln x.wl) (ln x.ll) d++xS L (ln x.ll) d m++x8 L d m k) s/\s.heap[Bx]?=some x.obj) (λi _=>ln x.ll-(intOf i).toNat);case atStart=>exact⟨0,nz _,rfl,by simpa[x8]using a,b⟩
     case round=>
      clear a b;obtain⟨k,hk,rfl,a,b⟩:=hrel;by_cases z:k<ln x.ll
      ·have f:kX L (ln x.wl) (ln x.ll) d++xS L (ln x.ll) d m++x8 L d m k++[L6 L d m k]<+:kX L (ln x.wl) (ln x.ll) (L+1):=by
        rw[las _ (x8 L d m k),←sR];exact at_pre A B z
       obtain⟨fn,tmps,assign,body,C,o⟩:=H _ (L6 L d m k) wr a (by have:=f.length_le;simp only[lla,llc,lln]at this ⊢;omega);rw[zW m k om]at C;have t:=o;have HP:Hid _:=f;clear o H a f;gi_wp2_with fail;refine⟨λh=>(by cases h),?_⟩;refine RoundIn.mono t ?_;rintro e W3 (⟨rfl,u,y⟩|⟨rfl,j⟩)
       ·clear t C;gi_wp2;refine⟨⟨k+1,om,gn,?_,O _ _ y b⟩,by simp[intOf];omega⟩;rw[sR,←las];exact u
       ·clear t C;gi_wp2;refine bpr (results_none rfl _ _ _) rfl ?_;exact⟨⟨_,rfl⟩,.inr ⟨_,HP.oQ,j⟩⟩
      ·have p:k=ln x.ll:=om;gi_wp2;refine⟨⟨m+1,om,gn,?_,b⟩,by simp[intOf];omega⟩;rw[sN,←las,←p];rw[←p]at a;exact a
    ·have r:m=ln x.wl:=om;gi_wp2;refine⟨⟨d+1,om,gn,?_,b⟩,by simp[intOf];omega⟩;rw[pN,←r];rw[←r]at a;exact a
  ·have v:d=L+1:=om;have q:¬(d:Int)<(L:Int)+1:=om;gi_wp2;go_end0;exact⟨⟨_,rfl⟩,.inl (by rw[←v];exact a)⟩
end Go.Proofs.YtoolgmmljacfmaaGreatDoor
namespace Go.Proofs.YtoolgmmljacfmaaGreatDoor
open Go.Shelf
theorem eqCh (a b c d b' e:Int)(w:Wd):(Op.equal 79 (gF a b c) (gF d b' e)).run prog w=.ok (a==d&&(b==b'&&c==e)) w:=by
 have i:prog.underlying 79=some (.struct (prog.fieldsOf 79)):=kr;have j:prog.stoodInHeld 79=false:=kr;unfold Op.equal Op.maxDepth;rw[show(10000:Nat)=9999+1 from rfl,run_equalIn_struct w 9999 79 _ _ i j];simp only[Program.fieldsOf,underlying79];go_simp;by_cases f:a=d<;>by_cases g:b=b'<;>by_cases h:c=e<;>simp[f,g,h]
theorem RP (d:Bool)(a b c:Int)(w:Wd):(Instr.checkKey d 10000 79 (gF a b c)).run prog w=.ok () w:=by
 rw[show(10000:Nat)=9998+1+1 from rfl,Instr.checkKey];simp only[Sem.run_bind,run_underlying underlying79,Result.andThen_ok];rw[←Array.forIn_toList];simp only[List.forIn_cons,List.forIn_nil]
 have hk:∀(i:Int) (w:Wd),(Instr.checkKey d (9998+1) 3 (I i)).run prog w=.ok () w:=λi w=>by
  rw[Instr.checkKey];simp[Sem.run_bind,run_underlying underlying3,Result.andThen_ok]
 go_simp
def Keys (es:List MapEntry):Prop:=∀e∈es,∃i k:Int,e.key=gF 0 i k
theorem yL (i k:Int):∀(a:List MapEntry) (n:Nat),Keys a->∃r,(∀w,(Instr.findAsking 79 (gF 0 i k) a n).run prog w=.ok r w)/\∀j v,r=some (j,v)->∃e∈a,e.key=gF 0 i k/\e.val=v
 |[],n,_=>⟨none,λw=>by simp[Instr.findAsking],λ_ _ h=>by cases h⟩
 |e::a,n,h=>by
  obtain⟨l,o,d⟩:=h e (List.mem_cons_self ..);by_cases b:i=l/\k=o
  ·obtain⟨rfl,rfl⟩:=b;refine⟨some (n,e.val),λw=>?_,λj v f=>?_⟩
   ·rw[Instr.findAsking,d];simp[Sem.run_bind,eqCh,Result.andThen_ok]
   ·cases f;exact⟨e,List.mem_cons_self ..,d,rfl⟩
  ·obtain⟨r,p,q⟩:=yL i k a (n+1) (λc m=>h c (List.mem_cons_of_mem _ m));refine⟨r,λw=>?_,λj v f=>?_⟩
   ·have s:((0:Int)==0&&(i==l&&k==o))=false:=by
     rw[befq];intro g;simp at g;exact b g
    rw[Instr.findAsking,d];simp only[Sem.run_bind,eqCh,Result.andThen_ok,s,bft,if_false];exact p w
   ·obtain⟨c,m,g⟩:=q j v f;exact⟨c,List.mem_cons_of_mem _ m,g⟩
theorem MG (i k:Int)(a:List MapEntry)(h:Keys a):∃r,(∀w,(Instr.findKey 79 (gF 0 i k) a).run prog w=.ok r w)/\∀j v,r=some (j,v)->∃e∈a,e.key=gF 0 i k/\e.val=v:=by
 cases a with
 |nil=>exact⟨none,λw=>by simp[Instr.findKey,run_underlying underlying79,Result.andThen,Instr.findNow],λ_ _ h=>by cases h⟩
 |cons e a=>
  obtain⟨r,b,c⟩:=yL i k (e::a) 0 h;refine⟨r,λw=>?_,c⟩;have f:∀d,Instr.findNow (.struct d) (gF 0 i k) (e::a) 0=none:=λd=>by simp[Instr.findNow,Instr.sameNow]
  unfold Instr.findKey;simp only[Sem.run_bind,run_underlying underlying79,Result.andThen_ok,f];exact b w
theorem YP (i k:Int)(r:Nat)(b:Array MapEntry)(a:Nat)(h:Keys b.toList):
 ∃o:Option Va,(∀v,o=some v->∃e∈b.toList,e.key=gF 0 i k/\e.val=v)/\
  (∀w,w.heap[r]?=some (.map b a)->(Instr.lookup 329 (.map (some r)) (gF 0 i k) true).run prog w=.ok (.tuple #[o.getD (ms),.bool o.isSome]) w)/\
  (o=none->∀w val,w.heap[r]?=some (.map b a)->(Instr.mapUpdate 329 (.map (some r)) (gF 0 i k) val).run prog w=.ok () { w with heap:=w.heap.setIfInBounds r (.map (b.push ⟨gF 0 i k,val,a⟩) (a+1))}):=by
 obtain⟨f,g,l⟩:=MG i k b.toList h;have p:∀w,(zeroValue 173).run prog w=.ok (ms) w:=λw=>by go_simp
 refine⟨f.map Prod.snd,?_,?_,?_⟩
 ·intro v n;obtain⟨⟨j,s⟩,rfl,rfl⟩:=Option.map_eq_some_iff.1 n;exact l j s rfl
 ·intro w c;have d:(getObj r).run prog w=.ok (.map b a) w:=by simp[getObj,Sem.run,c]
  unfold Instr.lookup;simp only[Sem.run_bind,run_underlying underlying329,Result.andThen_ok,d,Sem.run_pure,RP,g];cases f with
  |none=>simp[p]
  |some q=>simp
 ·intro m w val c;cases f with
  |some q=>cases m
  |none=>
   have d:(getObj r).run prog w=.ok (.map b a) w:=by simp[getObj,Sem.run,c]
   unfold Instr.mapUpdate;simp only[Sem.run_bind,run_underlying underlying329,Result.andThen_ok,d,RP,g];simp[setObj,Sem.run,c]
end Go.Proofs.YtoolgmmljacfmaaGreatDoor
namespace Go.Proofs.YtoolgmmljacfmaaGreatDoor
open Go.Shelf
attribute [local go_sem] Oper.semAt_some
variable {w w' c:Wd}{m n W C:Nat}{v:Va}{a i k:Int}{P:Int → Prop}{b:Bk}{x:Wx}
structure lG (m:Nat)(w w':World):Prop where
 os:w'.os=w.os
 tape:w'.tape=w.tape
 output:w'.output=w.output
 size:w.heap.size<=w'.heap.size
 block:∀k,k<w.heap.size->k≠m->w'.heap[k]?=w.heap[k]?
theorem lG.of_below {m:Nat}(h:aG w w'):lG m w w':=⟨h.os,h.tape,h.output,h.size,λk a _=>h.block k a⟩
theorem lG.trans {m:Nat}(h:lG m w w')(g:lG m w' c):lG m w c:=
 ⟨g.os.trans h.os,g.tape.trans h.tape,g.output.trans h.output,nlt h.size g.size,λk d e=>(g.block k (nll d h.size) e).trans (h.block k d e)⟩
theorem lG.set {m:Nat}(w:Wd)(o:Obj):lG m w { w with heap:=w.heap.setIfInBounds m o}:=
 ⟨rfl,rfl,rfl,sm,λk _ a=>by simp[Ne.symm a]⟩
theorem lG.cell {w w':Wd}{d:Array MapEntry}(h:lG m w w')(g:w.heap[m]?=some (.map d n)){p:Addr}(a:w.cell? p=some v):w'.cell? p=some v:=by
 have b:p.block≠m:=λe=>by subst e;simp[World.cell?,g]at a
 have f:=h.block p.block (aA a) b;unfold World.cell? at a ⊢;rw[f];exact a
theorem lG.spsF {r:Array MapEntry}(h:lG m w w')(o:w.heap[m]?=some (.map r W))(B:qI a P v w):qI a P v w':=by
 obtain⟨p,n,l,s,d,t,x⟩:=B;refine⟨p,n,l,s,⟨?_,?_⟩,t,x⟩
 ·rcases d.1 with d|⟨f,b,e,y⟩;·exact .inl d
  ·exact .inr ⟨f,b,e,λk A j u z=>h.cell o (y k A j u z)⟩
 ·rcases d.2 with d|⟨f,b,q,e,i⟩;·exact .inl d
  ·exact .inr ⟨f,b,q,e,(h.block f (cE i) (λg=>by rw[g,o]at i;cases i)).trans i⟩
structure qK (z:Nat)(b:Bk)(x:Wx)(w:World):Prop where
 hb:w.heap[z]?=some b.obj
 hx:w.heap[z+1]?=some x.obj
 hc:w.heap[z+3]?=some (.cells #[.map (some (z+2))] 329)
 hm:∃es clock,w.heap[z+2]?=some (.map es clock)/\∀e∈es.toList,∃i k:Int,e.key=gF 0 i k/\qI x.l (λd=>tK b x d i k=false) e.val w
theorem qK.zL {w w':Wd}(h:qK W b x w)(a:aG w w'):qK W b x w':=by
 obtain⟨j,l,n,d,c,p,q⟩:=h;have go:∀{k:Nat} {o:Obj},w.heap[k]?=some o->w'.heap[k]?=some o:=λe=>btq a e;exact⟨go j,go l,go n,d,c,go p,λe m=>by obtain⟨i,k,f,g⟩:=q e m;exact⟨i,k,f,g.zL a⟩⟩
theorem qK.put {f:Array MapEntry}(h:qK W b x w)(a:w.heap[W+2]?=some (.map f C))(t:∀e∈f.toList,∃i k:Int,e.key=gF 0 i k/\qI x.l (λd=>tK b x d i k=false) e.val w)(y:qI x.l (λd=>tK b x d i k=false) v w)(g j:Nat):
 qK W b x { w with heap:=w.heap.setIfInBounds (W+2) (.map (f.push ⟨gF 0 i k,v,g⟩) j)}:=by
 have n:=lG.set (m:=W+2) w (.map (f.push ⟨gF 0 i k,v,g⟩) j);have p:=(cE a);have go:∀{q:Nat} {o:Obj},q≠W+2->w.heap[q]?=some o->(World.heap { w with heap:=w.heap.setIfInBounds (W+2) (.map (f.push ⟨gF 0 i k,v,g⟩) j)})[q]?=some o:=λu e=>(n.block _ (cE e) u).trans e;refine⟨go om h.hb,go om h.hx,go om h.hc,_,_,by simp[p];exact⟨rfl,rfl⟩,λe m=>?_⟩;rw[Array.toList_push,lma,lms]at m;rcases m with m|rfl
 ·obtain⟨A,B,r,s⟩:=t e m;exact⟨A,B,r,n.spsF a s⟩
 ·exact⟨i,k,rfl,n.spsF a y⟩
variable {d:Int}
theorem VO (l:List Sp)(d:Int):kW l ⟨d,d⟩=true↔i8 l d:=by
 unfold kW i8;rw[List.any_eq_true];constructor
 ·rintro⟨s,a,h⟩;simp only[kI,bat,dte]at h;exact⟨s,a,om,om⟩
 ·rintro⟨s,a,h1,h2⟩;exact⟨s,a,by simp only[kI,bat,dte];omega⟩
theorem qI.covers {P:Int->Bool}(h:qI a (λd=>P d=false) v w)(f:0<=d)(g:d<=a):∃c b l,v=.slice c (List.length l) b/\Xs 2 Sp.cells w c l/\(ln l)<=1048576/\kW l ⟨d,d⟩=!P d:=by
 obtain⟨c,b,l,e,i,hl,j⟩:=h;refine⟨c,b,l,e,i.1,om,?_⟩;rw[beii,VO,j d f g];simp
theorem QA (n:Nat)(hn:5<=n)(z:Nat)(b:Bk)(x:Wx)(d i k:Int)(w:Wd)(hF:qK z b x w)(hb:iX w b)(hx:iL w x)(zk:aO b=true)(L:0<=b.now)(M:b.now<=10000)(zi:0<=x.l)(zj:x.l<=300)(zm:0<=x.f)(zn:0<=x.q)(W:0<=d)(X:d<=x.l):
 CallsIn Fence.wide n Tryz.prog 277 #[gF d i k,E (z+3) 0,E z 0,E (z+1) 0] w λe w'=>e=rt (.bool (tK b x d i k))/\lG (z+2) w w'/\qK z b x w':=by
 have h1n:1<=n:=om;have p:aG w ((w.alloc (jE d i k)).alloc (jE 0 i k)):=aC (aC (br _ _) _) _;have C0:=(halq (w.alloc (jE d i k)) (jE 0 i k) w.heap.size sm).trans (wnq w (jE d i k));have R:=wnq (w.alloc (jE d i k)) (jE 0 i k);rw[wsa]at R;have c:=hF.zL p;obtain⟨W0,T⟩:=cI ((w.alloc (jE d i k)).alloc (jE 0 i k));rw[T]at p C0 R c;obtain⟨S,s,t,r⟩:=c.hm;obtain⟨o,N,zb,O⟩:=YP i k (z+2) S s (λe m=>by obtain⟨i',k',g,_⟩:=r e m;exact⟨i',k',g⟩);have p0:W0.cell? (Y (z+3) 0)=some (.map (some (z+2))):=aB c.hc rfl;obtain⟨d0,d1,d2⟩:=aM R;have u:=zb W0 t;refine cow Tryz.func277 rfl trivial ?_ rfl;simp only[Tryz.ntmps277,lsz,llc,lln,Nat.reduceAdd,Nat.reduceSub,ars,arz,lpt,lap,lna,lca];have HW0:=aI T;have B:=aI C0;have zd:=aI R;clear C0 R zb;obtain⟨V,hV⟩:=bQ (tK b x d i k);rw[←hV];have HV:Hid _:=hV;clear hV;cases o with
 |some v=>
  obtain⟨e,Z,K,rfl⟩:=N v rfl;obtain⟨i',k',g1,g2⟩:=r e Z;rw[g1]at K;obtain⟨rfl,rfl⟩:i'=i/\k'=k:=by simpa using K
  obtain⟨ao,F,l,za,hX,hl,h⟩:=g2.covers W X;rw[za]at u;have c0:W0.cell? (ya w 0)=some (I d):=aB B.oQ rfl;have HR:Hid (lG (z+2) w W0):=lG.of_below p;have C:Hid (kW l ⟨d,d⟩=!V):=by rw[Hid,h,HV.oQ]
  have D:Hid _:=c;clear N O r Z K g1 g2 h c za t;simp only[Option.getD_some,Option.isSome_some]at u;gi_wp2_with fail;refine⟨trivial,?_⟩;refine(cw.2 (xX l ⟨d,d⟩ ao F W0 hX hl)).mono ?_;rintro e w1 ⟨rfl,a⟩;rw[C.oQ];have HE:Hid (lG (z+2) w w1/\qK z b x w1):=⟨HR.oQ.trans (lG.of_below a),D.oQ.zL a⟩;cases V<;>
  ·gi_wp2;go_ret;exact⟨rfl,HE.oQ⟩
 |none=>
  have A:=O rfl;have zh:Hid _:=A;clear N O A;simp only[Option.getD_none,Option.isSome_none]at u;have c0:W0.cell? (ya w 0)=some (I d):=aB B.oQ rfl;obtain⟨m0,m1,m2⟩:=aM c.hb;obtain⟨q0,q1,q2,q3,q4,q5,q6,q7⟩:=gT c.hx;have D:Hid _:=c;have zf:Hid _:=t;have ze:Hid _:=r;clear c t r;gi_wp2_with fail;refine⟨trivial,?_⟩;refine(VP (n-1) om b x i k W0 (hb.zL p) (hx.zL p) zk L M zi zj zm zn).mono ?_;rintro e w1 ⟨⟨v,rfl,hv⟩,a⟩;have H:=D.oQ.zL a;have j:=btq a zf.oQ;have y:∀e∈S.toList,∃i k:Int,e.key=gF 0 i k/\qI x.l (λd=>tK b x d i k=false) e.val w1:=λe m=>by obtain⟨i',k',g1,g2⟩:=ze.oQ e m;exact⟨i',k',g1,g2.zL a⟩
  have zl:=zh.out w1 v j;have J:=H.put j y hv s (s+1);have G:=(lG.of_below (m:=z+2) (aE p a)).trans (lG.set (m:=z+2) w1 (.map (S.push ⟨gF 0 i k,v,s⟩) (s+1)));have P:=(lG.set (m:=z+2) w1 (.map (S.push ⟨gF 0 i k,v,s⟩) (s+1))).spsF j hv;have C1:=btq a B.oQ;have D1:=btq a zd.oQ;have p0:w1.cell? (Y (z+3) 0)=some (.map (some (z+2))):=aB H.hc rfl;obtain⟨d0,d1,d2⟩:=aM D1;obtain⟨w2,Q⟩:=cI (({ w1 with heap:=w1.heap.setIfInBounds (z+2) (.map (S.push ⟨gF 0 i k,v,s⟩) (s+1))}:Wd));have c0:w2.cell? (ya w 0)=some (I d):=by rw[←Q];exact(lG.set (m:=z+2) w1 _).cell j (aB C1 rfl)
  rw[Q]at zl J G P;obtain⟨ao,F,l,rfl,hX,hl,h⟩:=P.covers W X;have C:Hid (kW l ⟨d,d⟩=!V):=by rw[Hid,h,HV.oQ]
  have zg:Hid _:=J;have zc:Hid _:=G;clear m0 m1 m2 q0 q1 q2 q3 q4 q5 q6 q7 H j y C1 D1 h J G P hv a Q u;gi_wp2_with fail;refine⟨trivial,?_⟩;refine(cw.2 (xX l ⟨d,d⟩ ao F w2 hX hl)).mono ?_;rintro e w3 ⟨rfl,U⟩;rw[C.oQ];have HE:Hid (lG (z+2) w w3/\qK z b x w3):=⟨zc.oQ.trans (lG.of_below U),zg.oQ.zL U⟩;cases V<;>
  ·gi_wp2;go_ret;exact⟨rfl,HE.oQ⟩
end Go.Proofs.YtoolgmmljacfmaaGreatDoor
namespace Go.Proofs.YtoolgmmljacfmaaGreatDoor
open Go.Shelf
theorem mkMap (t:TypeId)(w:Wd):(Instr.makeMap t none).run Tryz.prog w=.ok (.map (some w.heap.size)) (w.alloc (.map #[] 0)):=rfl
attribute [local go_sem] mkMap
abbrev mapc (r:Nat):Obj:=.cells #[.map (some r)] 329
theorem NU (b:Bk)(x:Wx)(w:Wd):
 aW 255 #[b.val,x.val] w λe w'=>e=rt (.func (.func 277) #[] #[E (w.heap.size+3) 0,E w.heap.size 0,E (w.heap.size+1) 0])/\aG w w'/\qK w.heap.size b x w':=by
 have a:aG w ((((w.alloc b.obj).alloc x.obj).alloc (.map #[] 0)).alloc (mapc (w.heap.size+2))):=aC (aC (aC (aC (br _ _) _) _) _) _
 have c:qK w.heap.size b x ((((w.alloc b.obj).alloc x.obj).alloc (.map #[] 0)).alloc (mapc (w.heap.size+2))):=by
  have h:=wnq w b.obj;have d:=wnq (w.alloc b.obj) x.obj;have f:=wnq ((w.alloc b.obj).alloc x.obj) (.map #[] 0);have g:=wnq (((w.alloc b.obj).alloc x.obj).alloc (.map #[] 0)) (mapc (w.heap.size+2));simp only[wsa]at d f g;refine⟨?_,?_,g,#[],0,?_,λe m=>by simp at m⟩;·exact(halq _ _ _ so).trans ((halq _ _ _ so).trans ((halq _ _ _ sm).trans h))
  ·exact(halq _ _ _ sm).trans ((halq _ _ _ sm).trans d)
  ·exact(halq _ _ _ sm).trans f
 have H:Hid _:=And.intro a c;clear a c;go_enter Tryz.func255,Tryz.ntmps255;go_wp2;go_ret;exact⟨rfl,H.oQ⟩
end Go.Proofs.YtoolgmmljacfmaaGreatDoor
namespace Go.Proofs.YtoolgmmljacfmaaGreatDoor
open Go.Shelf
attribute [local go_sem] Oper.semAt_some
theorem ZY (n a:Nat)(b:Oa)(w:Wd)(hn:n<=1048576):
 aW 273 #[.slice b n a] w λe w'=>e=rt (.bool (CS n))/\w'=w:=by
 go_enter func273,ntmps273
 go_wp2
 all_goals go_ret
 all_goals refine⟨aF ?_,rfl⟩
 all_goals (rw[beii];simp only[CS,dte,bft,false_iff];omega)
theorem LL (l:List Cx)(p:Oa)(m:Nat)(w:Wd)(s:Xs 2 Cx.cells w p l)(hn:ln l<=1048576):
 aW 274 #[.slice p (ln l) m] w λe w'=>e=rt (.bool (l.all gG))/\aG w w':=by
 go_enter func274,ntmps274
 go_wp2
 go_loopw [7] (λi wr=>∃k:Nat,k<=ln l/\i=I k/\aG w wr/\Hid ((l.take k).all gG=true)) (λi _=>ln l-(intOf i).toNat)
 case atStart=>exact⟨0,nz _,rfl,br _ _,by simp[Hid]⟩
 case round=>
  obtain⟨k,hk,rfl,n,f⟩:=hrel
  by_cases a:k<ln l
  ·rcases s with h|⟨bl,off,rfl,r⟩
   ·subst h;simp at a
   ·have d:=(r k a).zL n
    obtain⟨b,c⟩:=bQ (l[k]);rw[←c]at d;have o:Hid (b=l[k]):=c;clear c r;obtain⟨c0,c1⟩:=qN d;clear d;have g:aG w _:=mG n (nlq _) (.cells #[I b.x,I b.y] 107);obtain⟨V,q⟩:=bQ (gW b.x b.y);have j:Hid (V=gG b):=q;clear q
    cases V with
    |false=>
     go_wp2_with (go_at_call 187;refine(qE _ _ _).mono ?_;rintro e w1 ⟨rfl,rfl⟩;rw[show gW b.x b.y=false from j.oQ.symm])
     go_ret;exact⟨aF (jP _ l k a (by rw[←o.oQ];exact j.oQ.symm)).symm,g⟩
    |true=>
     go_wp2_with (go_at_call 187;refine(qE _ _ _).mono ?_;rintro e w1 ⟨rfl,rfl⟩;rw[show gW b.x b.y=true from j.oQ.symm])
     go_roundw
     case rel=>exact⟨k+1,om,gn,g,by rw[Hid,nJ _ l k a,f.out,←o.oQ,←j.oQ];rfl⟩
     case measure=>simp[intOf];omega
  ·go_wp2
   go_ret;refine⟨aF ?_,n⟩;rw[ltl om]at f;exact f.out.symm
theorem QC (n:Nat)(hn:6<=n)(z off i:Nat)(l:List Cx)(zj:l.all gG=true)(zi:1<=ln l)(zg:ln l<=1048576)(w:Wd)(hc:∀j (h:j<ln l),bC w z (off+j*2) l[j].cells):
 CallsIn Fence.wide n prog 275 #[.slice (some (Y z off)) (ln l) i] w λe W'=>e=rt (.bool (iR l))/\aG w W':=by
 have h1:1<=n:=om
 refine callsIn_of_wp_marks func275 rfl trivial ?_ rfl;simp only[ntmps275,lsz,llc,lln,Nat.reduceAdd,Nat.reduceSub,ars,arz,lpt,lap,lna,lca];gi_wp2_with fail
 refine⟨trivial,?_⟩;refine(WT Fence.wide (n-1) trivial rfl _ _ _ _).mono ?_;rintro e w' ⟨rfl,rfl⟩;gi_wp2_with fail
 have V:=(Boxed.new w 4 (.bool false)).alloc (.cells #[sl z off (ln l) i] 87);have bS:=Boxed.new (w.alloc (.cells #[.bool false] 4)) 87 (sl z off (ln l) i);simp only[wsa]at bS;have A:aG w ((w.alloc (.cells #[.bool false] 4)).alloc (.cells #[sl z off (ln l) i] 87)):=((br _ w).alloc (nlq _) _).alloc sm _;have zk:((w.alloc (.cells #[.bool false] 4)).alloc (.cells #[sl z off (ln l) i] 87)).heap.size=w.heap.size+2:=by simp
 obtain⟨W0,zb⟩:=cI ((w.alloc (.cells #[.bool false] 4)).alloc (.cells #[sl z off (ln l) i] 87));rw[zb]at V bS A zk ⊢;clear zb
 refine wpIn_rangeFunc_ownH rfl h1 (gf:=288) (lb:=#[E (w.heap.size+1) 0]) rfl trivial (enters_of func288 kr rfl)
  (K1 (n-1) (w.heap.size+1) z off i l zj zi zg W0 bS.cell (λj h=>(hc j h).zL A)) belowK_t (belowK_b (nlq _)) (br _ _) (λ_=>rfl)
  (λm W=>(∀x∈m,jL x.1.1 x.1.2=true)/\aG W0 W)
  (λc m W=>((c=.ret/\∃x∈m,jL x.1.1 x.1.2=false)/\Boxed W w.heap.size 4 (.bool false))/\aG w W)
  (OwnFrom.and (ownFrom_pure _ _) (ownFrom_below (nlq _) (nlq _)))
  (λc=>OwnFrom.and (OwnFrom.and (ownFrom_pure _ _) (Own.from (boxed_own _ _ _) _)) (ownFrom_below (nlq _) om))
  ⟨sm,br _ _⟩
  (λx a' W=>∃T U,zM W T x.1.1/\zM W U x.1.2/\a'={ tmps:=#[sl z off (ln l) i,undef,ea w 0,E T 0,E U 0,sl z off (ln l) i,.func (.func 288) #[] #[E (w.heap.size+1) 0],x.1.1.val,x.1.2.val,undef,undef,undef,undef,undef,undef,undef,undef,undef,undef,undef,undef,undef,undef,undef,undef,undef,undef,undef],defers:=[]})
  (λx a' _ X a row zl hg hr=>by obtain⟨T,U,e1,e2,e3⟩:=zl;exact⟨T,U,FU e1 hg (λr e=>(hr r e).2),FU e2 hg (λr e=>(hr r e).2),e3⟩)
  ?assign ?body ?done ?stop
 case assign=>
  rintro R m x W K ⟨Q,b⟩ C;gi_wp2
  exact C _ _ (((KeepsOthers.alloc _ _).trans (KeepsOthers.alloc _ _)).from _) (((br _ W).alloc b.size _).alloc (by have:=b.size;simp;omega) _) ⟨Q,(b.alloc b.size _).alloc (by have:=b.size;simp;omega) _⟩
   ⟨W.heap.size,W.heap.size+1,(KE W _ rfl x.1.1 _).zL ((br _ _).alloc (nlq _) _),KE _ _ sm x.1.2 _,rfl⟩
 case body=>
  rintro R m x a' W hl ⟨r,hr⟩ ⟨Q,b⟩ ⟨T,U,e1,e2,rfl⟩ hlt;have h1':1<=n-1-1:=om
  have O:=vJ x.2.1;have P:=vJ x.2.2;have cR:W.cell? (ya w 0)=some (.bool false):=(b.cell (p:=(ya w 0)) (by show w.heap.size<_;omega)).trans V.cell;have fR:W.frozen? (ya w 0)=false:=(b.frozen (p:=(ya w 0)) (by show w.heap.size<_;omega)).trans V.frozen;have Z:Boxed W w.heap.size 4 (.bool false):=(b.block w.heap.size om).trans V;have za:aG w W:=A.trans (b.mono om);obtain⟨c0,c1⟩:=e1;obtain⟨d0,d1⟩:=e2;have B:x∈m++[x]:=lma.2 (.inr sm);have HM:=aI B;clear B;obtain⟨⟨⟨⟨q,u⟩,⟨s,f⟩⟩,hxx⟩,o⟩:∃y,y=x:=⟨_,rfl⟩;rw[←o]at O P c0 c1 d0 d1;have HX:Hid (jL x.1.1 x.1.2=jL ⟨q,u⟩ ⟨s,f⟩):=by rw[←o];rfl
  rw[←o];rw[o];have e7:x.1.1.val=.agg #[I q,I u]:=by rw[←o]
  have e8:x.1.2.val=.agg #[I s,I f]:=by rw[←o]
  clear o;simp only at O P c0 c1 d0 d1;obtain⟨G,H,zc,zd⟩:=O;obtain⟨J,L,ze,zf⟩:=P
  have d:Hid (jL ⟨q,u⟩ ⟨s,f⟩=false->KeepsFrom W0.heap.size W (W.setCell (ya w 0) (.bool false))/\(∃y∈m++[x],jL y.1.1 y.1.2=false)/\Boxed (W.setCell (ya w 0) (.bool false)) w.heap.size 4 (.bool false)/\aG w (W.setCell (ya w 0) (.bool false))):=λN=>
   ⟨(KeepsOthers.setCell _ _ _).from _,⟨x,HM.oQ,by rw[HX.oQ];exact N⟩,Z.set _,za.setCell (p:=(ya w 0)) (nlq _) _⟩
  have t:Hid (jL ⟨q,u⟩ ⟨s,f⟩=true->KeepsFrom W0.heap.size W W/\Below W0.heap.size W W/\(∀y∈m++[x],jL y.1.1 y.1.2=true)/\aG W0 W):=λN=>
   ⟨(cA (br _ _)).from _,br _ _,λy hy=>(lma.1 hy).elim (Q y) (λe=>by simp at e;subst e;rw[HX.oQ];exact N),b⟩
  clear Q b za Z HX HM
  by_cases hx:q=s/\u=f
  ·have g:Hid _:=d.oQ (by simp only[jL,dfi];omega)
   have S:(q==s)=true:=by simp[hx.1]
   have q1:(u==f)=true:=by simp[hx.2]
   clear hx d t;gi_wp2_with fail
   refine⟨trivial,?_⟩;gi_wp2_with fail
   refine⟨trivial,?_⟩;gi_wp2;exact⟨g.oQ.1,⟨⟨rfl,g.oQ.2.1⟩,g.oQ.2.2.1⟩,g.oQ.2.2.2⟩
  ·have hq:(q==s)=false∨((q==s)=true/\(u==f)=false):=by
    by_cases h:q=s
    ·exact .inr ⟨by simp[h],by simp;exact λh2=>hx ⟨h,h2⟩⟩
    ·exact .inl (by simp[h])
   have zh:=aI hx;clear hx
   by_cases h1:max (q-s) (s-q)>1
   ·have g:Hid _:=d.oQ (by simp only[jL,dfi];omega)
    clear d t
    rcases hq with S|⟨S,q1⟩
    all_goals
     gi_wp2_with fail
     refine⟨trivial,?_⟩;refine(CallsIn.inRound R (cw.2 (lX q s W G H J L))).mono ?_;rintro e w1 ⟨rfl,rfl⟩;gi_wp2_with fail
     refine⟨trivial,?_⟩;gi_wp2;exact⟨g.oQ.1,⟨⟨rfl,g.oQ.2.1⟩,g.oQ.2.2.1⟩,g.oQ.2.2.2⟩
   ·by_cases h2:max (u-f) (f-u)>1
    ·have g:Hid _:=d.oQ (by simp only[jL,dfi];omega)
     clear d t
     rcases hq with S|⟨S,q1⟩
     all_goals
      gi_wp2_with fail
      refine⟨trivial,?_⟩;refine(CallsIn.inRound R (cw.2 (lX q s W G H J L))).mono ?_;rintro e w1 ⟨rfl,rfl⟩;gi_wp2_with fail
      refine⟨trivial,?_⟩;refine(CallsIn.inRound R (cw.2 (lX u f _ zc zd ze zf))).mono ?_;rintro e w1 ⟨rfl,rfl⟩;gi_wp2;exact⟨g.oQ.1,⟨⟨rfl,g.oQ.2.1⟩,g.oQ.2.2.1⟩,g.oQ.2.2.2⟩
    ·have g:Hid _:=t.oQ (by have:=zh.oQ;simp only[jL,dte];omega)
     clear d t
     rcases hq with S|⟨S,q1⟩
     all_goals
      gi_wp2_with fail
      refine⟨trivial,?_⟩;refine(CallsIn.inRound R (cw.2 (lX q s W G H J L))).mono ?_;rintro e w1 ⟨rfl,rfl⟩;gi_wp2_with fail
      refine⟨trivial,?_⟩;refine(CallsIn.inRound R (cw.2 (lX u f _ zc zd ze zf))).mono ?_;rintro e w1 ⟨rfl,rfl⟩;gi_wp2;exact⟨g.oQ.1,g.oQ.2.1,g.oQ.2.2.1,g.oQ.2.2.2⟩
 case done=>
  rintro D zs W hD rfl ⟨Q,b⟩ C;have v:Boxed W w.heap.size 4 (.bool false):=(b.block w.heap.size om).trans V;have cR:=v.cell;have fR:=v.frozen;gi_wp2;have F:=(KeepsOthers.setCell W (ya w 0) (.bool true)).same D _ C rfl;refine⟨sm,.inl ⟨_,_,rfl,rtd F,?_⟩⟩;have M:=cell_kept (v.set (.bool true)).cell (grownBy_putObj' _ D (.deferred none)) (λr e=>by cases e;exact⟨_,F,rfl⟩);refine⟨.bool true,?_,by rw[OV Q],(((A.trans (b.mono om)).setCell (p:=(ya w 0)) (nlq _) _).trans (belowK_b (w:=w) (nlq _) _ D _ _ om F rfl rfl))⟩
  simp[results,Tryz.f275,go_sem,M]
 case stop=>
  rintro D c m W hD ⟨k,hk,rfl⟩ ⟨⟨⟨rfl,x,hx,hy⟩,v⟩,b⟩ C;gi_wp2;refine⟨sm,.inl ⟨_,_,rfl,rtd C,?_⟩⟩;have M:=cell_kept v.cell (grownBy_putObj' _ D (.deferred none)) (λr e=>by cases e;exact⟨_,C,rfl⟩);refine⟨.bool false,?_,by rw[PP hk hx hy],b.trans (belowK_b (w:=w) (nlq _) W D _ _ om C rfl rfl)⟩
  simp[results,Tryz.f275,go_sem,M]
variable {s:Va}{e c b z q j o W:Nat}{f g d r t:Cx}{a i F:Nat → Va}{w w':Wd}{n:TypeId}
def LS (s:Value)(bl off len z:Nat)(c0 cl:Cx)(j:Nat)(vs:Nat->Value)(w:World):Prop:=
 match j with
 |0=>vs 0=s
 |1=>vs 1=(E bl off)
 |2=>vs 2=c0.val
 |3=>vs 3=s
 |4=>vs 4=s
 |5=>vs 5=I (len:Int)
 |6=>vs 6=I ((len:Int)-1)
 |7=>vs 7=(E bl (off+(len-1)*2))
 |8=>vs 8=cl.val
 |9=>vs 9≠vs 10/\∃p u v,vs 9=(E p 0)/\z<=p/\w.heap[p]?=some (.cells #[u,v] 107)
 |10=>vs 9≠vs 10/\∃p u v,vs 10=(E p 0)/\z<=p/\w.heap[p]?=some (.cells #[u,v] 107)
 |11=>∃p,vs 9=(E p 0)/\zM w p c0
 |12=>∃p,vs 10=(E p 0)/\zM w p cl
 |_=>True
theorem LS.upd {j i:Nat}(h:LS s e c b z f g j a w)(l:j≠i)(k:i≠9)(d:i≠10)(v:Va):LS s e c b z f g j (aH a i v) w:=by
 have e9:Go.Proofs.YtoolgmmljacfmaaGreatDoor.aH a i v 9=a 9:=by unfold Go.Proofs.YtoolgmmljacfmaaGreatDoor.aH;rw[if_neg (Ne.symm k)]
 have e10:Go.Proofs.YtoolgmmljacfmaaGreatDoor.aH a i v 10=a 10:=by unfold Go.Proofs.YtoolgmmljacfmaaGreatDoor.aH;rw[if_neg (Ne.symm d)]
 have ej:Go.Proofs.YtoolgmmljacfmaaGreatDoor.aH a i v j=a j:=by unfold Go.Proofs.YtoolgmmljacfmaaGreatDoor.aH;rw[if_neg l]
 unfold LS at h ⊢;split<;>simp_all
theorem LS.zL {w w':Wd}(h:LS s c b q z d f j i w)(g:aG w w'):LS s c b q z d f j i w':=by
 have n:∀{p:Nat} {o:Obj},w.heap[p]?=some o->w'.heap[p]?=some o:=λh=>btq g h;unfold LS at h ⊢;split
 all_goals first
  |exact h
  |exact⟨h.1,by obtain⟨p,u,v,e,m,l⟩:=h.2;exact⟨p,u,v,e,m,n l⟩⟩
  |(obtain⟨p,e,k⟩:=h;exact⟨p,e,k.zL g⟩)
  |trivial
theorem LS.turn {q:Nat} (h:LS s o W b z r t j F w) (B:∃ u v,w'.heap[q]?=some (.cells #[u,v] 107)) (l:∀ p,p≠q->w'.heap[p]?=w.heap[p]?)
 (i:j=11->F 9≠(E q 0)) (k:j=12->F 10≠(E q 0)):LS s o W b z r t j F w':=by
 have y:∀ {p:Nat} {c:Cx},p≠q->zM w p c->zM w' p c:=fun a f=>⟨by have:=f.1;simp only[World.cell?,l _ a]at this ⊢;exact this,by have:=f.2;simp only[World.cell?,l _ a]at this ⊢;exact this⟩;unfold LS at h ⊢
 split
 all_goals first
  | exact h
  | (obtain⟨A,p,u,v,e,x,m⟩:=h
     refine⟨A,p,?_⟩
     by_cases a:p=q
     · subst a;obtain⟨C,D,n⟩:=B;exact⟨C,D,e,x,n⟩
     · exact⟨u,v,e,x,by rw[l _ a];exact m⟩)
  | (obtain⟨p,e,f⟩:=h
     refine⟨p,e,y ?_ f⟩;intro a;subst a
     first | exact i rfl e | exact k rfl e)
  | trivial
theorem RU (h:w.rowIs z n 2 F):∃u v,w.heap[z]?=some (.cells #[u,v] n):=by
 obtain⟨a,c,d,_⟩:=h;refine⟨a[0],a[1],?_⟩;rw[c];congr 2;apply Array.ext;·simp[d]
 ·intro i h1 b;have:i=0∨i=1:=by simp at b;omega
  rcases this with rfl|rfl<;>rfl
theorem ZS (n:Nat) (hn:3<=n) (Q:List Fx) (l:List Cx) (af:Oa) (cf N off z B:Nat) (w:Wd) (s:w.cell? (Y B 0)=some (.slice af (ln Q) cf)) (zc:Xs 3 Fx.cells w af Q) (hc:∀ j (h:j<ln l),bC w N (off+j*2) l[j].cells) (zd:ln Q<=1048576) (hnl:ln l<=1048576) (hl1:1<=ln l):
 CallsIn Fence.wide n Tryz.prog 276 #[.slice (some (Y N off)) (ln l) z,E B 0] w fun e w'=>e=rt (.bool (yO Q l))/\aG w w':=by
 have h1:1<=n:=om
 have b0:=hc 0 om;have bn:=hc (ln l-1) om;have E0:l[0]'om=lW l 0:=(jW l 0 om).symm;have E1:l[ln l-1]'om=lW l (ln l-1):=(jW l (ln l-1) om).symm;rw[E0,Nat.zero_mul,naz]at b0;rw[E1]at bn;unfold yO;generalize lW l 0=c0 at b0;generalize lW l (ln l-1)=cl at bn;obtain⟨v1,g1⟩:∃ v,zS Q c0.x c0.y=v:=⟨_,rfl⟩;obtain⟨v2,g2⟩:∃ v,zS Q cl.x cl.y=v:=⟨_,rfl⟩;rw[g1,g2];clear hc E0 E1;refine cow Tryz.func276 rfl trivial ?_ rfl;simp only[Tryz.ntmps276,lsz,llc,lln,Nat.reduceAdd,Nat.reduceSub,ars,arz,lpt,lap,lna,lca];gi_wp2_with fail
 refine oD kr (fun c=>{ tmps:=#[sl N off (ln l) z,E B 0,undef,.bool false,c 9,c 10,c 0,c 1,c 2,c 3,c 4,c 5,c 6,c 7,c 8,undef,undef,undef,undef,undef,undef,undef,undef,undef,undef,undef,undef,undef,undef],defers:=[]}) (fun _=>undef)
  (LS (sl N off (ln l) z) N off (ln l) w.heap.size c0 cl) (qG kr) ?step ?fin
 case step=>
  intro D i o c w' d ze R t f k b;have hi:i<13:=(lgs.1 t).1
  match i,hi with
  | 0,_=>
   cases t
   gi_wp2;refine dL.mk' (sl N off (ln l) z) (by simp[aH]) k rfl (fun a ha=>(b a ha).upd (i:=0) (fun e=>d (by rw[← e];exact ha)) om om _)
  | 1,_=>
   cases t
   have d0:c 0=_:=b 0 (Zq f 0);rw[d0];gi_wp2;refine dL.mk' (E N off) (by simp[aH,d0]) k rfl (fun a ha=>(b a ha).upd (i:=1) (fun e=>d (by rw[← e];exact ha)) om om _)
  | 2,_=>
   cases t
   have d1:c 1=_:=b 1 (Zq f 1);rw[d1];obtain⟨k0,k1⟩:=qN (b0.zL k);gi_wp2;refine dL.mk' (c0.val) (by simp[aH,d1]) k rfl (fun a ha=>(b a ha).upd (i:=2) (fun e=>d (by rw[← e];exact ha)) om om _)
  | 3,_=>
   cases t
   gi_wp2;refine dL.mk' (sl N off (ln l) z) (by simp[aH]) k rfl (fun a ha=>(b a ha).upd (i:=3) (fun e=>d (by rw[← e];exact ha)) om om _)
  | 4,_=>
   cases t
   gi_wp2;refine dL.mk' (sl N off (ln l) z) (by simp[aH]) k rfl (fun a ha=>(b a ha).upd (i:=4) (fun e=>d (by rw[← e];exact ha)) om om _)
  | 5,_=>
   cases t
   have d4:c 4=_:=b 4 (Zq f 4);rw[d4];gi_wp2;refine dL.mk' (I (ln l:Int)) (by simp[aH,d4]) k rfl (fun a ha=>(b a ha).upd (i:=5) (fun e=>d (by rw[← e];exact ha)) om om _)
  | 6,_=>
   cases t
   have d5:c 5=_:=b 5 (Zq f 5);rw[d5];gi_wp2;refine dL.mk' (I ((ln l:Int)-1)) (by simp[aH,d5]) k rfl (fun a ha=>(b a ha).upd (i:=6) (fun e=>d (by rw[← e];exact ha)) om om _)
  | 7,_=>
   cases t
   have d3:c 3=_:=b 3 (Zq f 3);have d6:c 6=_:=b 6 (Zq f 6);rw[d3,d6];gi_wp2;refine dL.mk' (E N (off+(ln l-1)*2)) (by simp[aH,d3,d6]) k rfl (fun a ha=>(b a ha).upd (i:=7) (fun e=>d (by rw[← e];exact ha)) om om _)
  | 8,_=>
   cases t
   have d7:c 7=_:=b 7 (Zq f 7);rw[d7];obtain⟨k0,k1⟩:=qN (bn.zL k);gi_wp2;refine dL.mk' (cl.val) (by simp[aH,d7]) k rfl (fun a ha=>(b a ha).upd (i:=8) (fun e=>d (by rw[← e];exact ha)) om om _)
  | 9,_=>
   cases t
   gi_wp2;have G:aG w' (w'.alloc (.cells #[I 0,I 0] 107)):=aC (br _ _) _;have J:(w'.alloc (.cells #[I 0,I 0] 107)).heap[w'.heap.size]?=some (.cells #[I 0,I 0] 107):=wnq w' _;have M:=k.size
   have m:D 10->c 10≠(ea w' 0):=fun A e=>by
    obtain⟨_,p,u,v,C,_,W⟩:=b 10 A;rw[e]at C;simp at C;have:=(cE W);omega
   have hu:¬ D 10->c 10=undef:=ze 10
   have K:c 10≠(ea w' 0):=by
    by_cases A:D 10
    · exact m A
    · rw[hu A];intro e;cases e
   refine dL.mk' (ea w' 0) (by simp[aH]) (k.trans (G.mono M)) ?_ (fun a ha=>?_)
   · exact⟨by simp only[aH];simp;exact fun e=>K e.symm,w'.heap.size,_,_,uhx,M,J⟩
   · have T:=(b a ha).zL G
     have zf:a≠9:=fun e=>d (by rw[← e];exact ha);have V:¬ D 11:=fun A=>d (R 11 _ A rfl (eD 9) sm rfl);unfold LS at T ⊢
     split
     all_goals first
      | (simp only[aH];simp;exact T)
      | exact absurd rfl zf
      | exact absurd ha V
      | (obtain⟨_,p,u,v,e,P,g⟩:=T
         exact⟨by simp only[aH];simp;exact fun e=>K e.symm,p,u,v,by simp only[aH];simp;exact e,P,g⟩)
      | trivial
  | 10,_=>
   cases t
   gi_wp2;have G:aG w' (w'.alloc (.cells #[I 0,I 0] 107)):=aC (br _ _) _;have J:(w'.alloc (.cells #[I 0,I 0] 107)).heap[w'.heap.size]?=some (.cells #[I 0,I 0] 107):=wnq w' _;have M:=k.size
   have m:D 9->c 9≠(ea w' 0):=fun A e=>by
    obtain⟨_,p,u,v,C,_,W⟩:=b 9 A;rw[e]at C;simp at C;have:=(cE W);omega
   have hu:¬ D 9->c 9=undef:=ze 9
   have K:c 9≠(ea w' 0):=by
    by_cases A:D 9
    · exact m A
    · rw[hu A];intro e;cases e
   refine dL.mk' (ea w' 0) (by simp[aH]) (k.trans (G.mono M)) ?_ (fun a ha=>?_)
   · exact⟨by simp only[aH];simp;exact K,w'.heap.size,_,_,uhx,M,J⟩
   · have T:=(b a ha).zL G
     have zb:a≠10:=fun e=>d (by rw[← e];exact ha);have V:¬ D 12:=fun A=>d (R 12 _ A rfl (eD 10) sm rfl);unfold LS at T ⊢
     split
     all_goals first
      | (simp only[aH];simp;exact T)
      | exact absurd rfl zb
      | exact absurd ha V
      | (obtain⟨_,p,u,v,e,P,g⟩:=T
         exact⟨by simp only[aH];simp;exact K,p,u,v,by simp only[aH];simp;exact e,P,g⟩)
      | trivial
  | 11,_=>
   cases t
   have Z:c 2=_:=b 2 (Zq f 2);obtain⟨m,p,u,v,O,P,g⟩:=b 9 (Zq f 9);have S:=aI m;have F:=aI O;rw[Z,O];have k0:w'.cell? (Y p 0)=some u:=aB g rfl;have k1:w'.cell? (Y p 1)=some v:=aB g rfl;have r:=uJ g;have fz:=fun i=>r.frozen i;clear m;gi_wp2;have X:=(r.set 0 (I c0.x)).set 1 (I c0.y);refine dL.mk' undef (by simp[aH,Z,O]) ((k.setCell P _).setCell P _) ?_ (fun a ha=>?_)
   · exact⟨p,by simp only[aH];simp;exact F.oQ,X.cell (i:=0) om,X.cell (i:=1) om⟩
   · refine(LS.turn (b a ha) (q:=p) (RU X) (fun p' L=>?_) (fun e=>?_) (fun e=>?_)).upd (i:=11) (fun e=>d (by rw[← e];exact ha)) om om _
     · rw[bhs _ _ _ _ L,bhs _ _ _ _ L]
     · exact absurd (by rw[← e];exact ha) d
     · intro C;exact S.oQ (F.oQ.trans C.symm)
  | 12,_=>
   cases t
   have Z:c 8=_:=b 8 (Zq f 8);obtain⟨m,p,u,v,O,P,g⟩:=b 10 (Zq f 10);have S:=aI m;have F:=aI O;rw[Z,O];have k0:w'.cell? (Y p 0)=some u:=aB g rfl;have k1:w'.cell? (Y p 1)=some v:=aB g rfl;have r:=uJ g;have fz:=fun i=>r.frozen i;clear m;gi_wp2;have X:=(r.set 0 (I cl.x)).set 1 (I cl.y);refine dL.mk' undef (by simp[aH,Z,O]) ((k.setCell P _).setCell P _) ?_ (fun a ha=>?_)
   · exact⟨p,by simp only[aH];simp;exact F.oQ,X.cell (i:=0) om,X.cell (i:=1) om⟩
   · refine(LS.turn (b a ha) (q:=p) (RU X) (fun p' L=>?_) (fun e=>?_) (fun e=>?_)).upd (i:=12) (fun e=>d (by rw[← e];exact ha)) om om _
     · rw[bhs _ _ _ _ L,bhs _ _ _ _ L]
     · intro C;exact S.oQ (C.trans F.oQ.symm)
     · exact absurd (by rw[← e];exact ha) d
 case fin=>
  intro c w' k b;obtain⟨p,O,q0,q1⟩:=b 11 dz;obtain⟨q,za,r0,r1⟩:=b 12 dz;have e0:c 0=_:=b 0 dz;have e1:c 1=_:=b 1 dz;have C:c 2=_:=b 2 dz;have e3:c 3=_:=b 3 dz;have e4:c 4=_:=b 4 dz;have e5:c 5=_:=b 5 dz;have e6:c 6=_:=b 6 dz;have e7:c 7=_:=b 7 dz;have e8:c 8=_:=b 8 dz;rw[e0,e1,C,e3,e4,e5,e6,e7,e8,O,za];have kB:=(k.cell (p:=(Y B 0)) (aA s)).trans s;clear b e0 e1 C e3 e4 e5 e6 e7 e8 O za b0 bn s;gi_wp2_with fail
  refine⟨trivial,?_⟩;refine(cw.2 (oB Q _ _ _ _ _ (zc.zL k) zd)).mono ?_;rintro e w1 ⟨rfl,H⟩;rw[g1];have kB1:=(H.cell (p:=(Y B 0)) (aA kB)).trans kB;have r01:=(H.cell (p:=(Y q 0)) (aA r0)).trans r0;have r11:=(H.cell (p:=(Y q 1)) (aA r1)).trans r1;have U:=aE k H;clear kB r0 r1 q0 q1 H
  cases v1 with
  | false=>
   gi_wp2_with fail
   refine⟨trivial,?_⟩;gi_wp2;go_ret;exact⟨rfl,U⟩
  | true=>
   gi_wp2_with fail
   refine⟨trivial,?_⟩;refine(cw.2 (oB Q _ _ _ _ _ (zc.zL U) zd)).mono ?_;rintro e w2 ⟨rfl,zg⟩;rw[g2];gi_wp2;go_ret;exact⟨rfl,aE U zg⟩
theorem XE (c:List Fx)(l:List Cx)(f m:Oa)(n b B:Nat)(w:Wd)(a:w.cell? (Y B 0)=some (.slice f (ln c) n))(g:Xs 3 Fx.cells w f c)(q:Xs 2 Cx.cells w m l)(i:ln c<=1048576)(j:ln l<=1048576)(d:1<=ln l):
 aW 276 #[.slice m (ln l) b,E B 0] w λe w'=>e=rt (.bool (yO c l))/\aG w w':=by
 rcases q with h|⟨o,k,rfl,p⟩;·subst h;simp at d
 ·exact cw.1 (ZS 3 om c l f n o k b B w a g p i j d)
theorem MX (g:Oa)(a:Nat)(l:List Cx)(d:l.all gG=true)(b:1<=ln l)(c:ln l<=1048576)(w:Wd)(m:Xs 2 Cx.cells w g l):
 aW 275 #[.slice g (ln l) a] w λe i=>e=rt (.bool (iR l))/\aG w i:=by
 rcases m with h|⟨j,f,rfl,k⟩;·subst h;simp at b
 ·exact cw.1 (QC 6 om j f a l d b c w k)
end Go.Proofs.YtoolgmmljacfmaaGreatDoor
namespace Go.Proofs.YtoolgmmljacfmaaGreatDoor
variable {n:Nat}
def KH (fl:List Fx)(l:List Cx)(k:Nat):Prop:=(0<k->CS l.length=true)/\(1<k->l.all gG=true)/\(2<k->iR l=true)/\(3<k->yO fl l=true)
theorem K4 (h:CS n=true):1<=n:=by simp only[CS,dte]at h;omega
theorem JU (d:List Fx)(l:List Cx)(v r:Oa)(D f G B:Nat)(w:Wd)(z:Xs 3 Fx.cells w v d)(A:Xs 2 Cx.cells w r l)(C:ln d<=1048576)(u:ln l<=1048576)
 (m:w.cell? (Y G 0)=some (.func (.func 273) #[] #[]))(n:w.cell? (Y G 1)=some (.func (.func 274) #[] #[]))(o:w.cell? (Y G 2)=some (.func (.func 275) #[] #[]))
 (q:w.cell? (Y G 3)=some (.func (.func 276) #[] #[E B 0]))(F:w.cell? (Y B 0)=some (.slice v (ln d) D)):
 aW 272 #[.slice r (ln l) f,.slice (some (Y G 0)) 4 4] w λe w'=>e=rt (.bool (j9 d l))/\aG w w':=by
 obtain⟨V,y⟩:=bQ (j9 d l);rw[←y];have t:=aI y;clear y;have s:=aI F;clear F
 go_enter func272,ntmps272
 go_wp2
 go_loopw [9] (λi wr=>∃k:Nat,k<=4/\i=I k/\aG w wr/\Hid (KH d l k)) (λi _=>4-(intOf i).toNat)
 case atStart=>exact⟨0,om,rfl,br _ _,by simp[Hid,KH]⟩
 case round=>
  obtain⟨k,hk,rfl,a,b⟩:=hrel;have j:k=0∨k=1∨k=2∨k=3∨k=4:=om
  rcases j with H|J|K|L|M
  ·subst H
   have x:=(a.cell (p:=(Y G 0)) (aA m)).trans m;clear m n o q
   go_wp2_with (go_at_call 273;refine(ZY (ln l) f r _ u).mono ?_;rintro e wr ⟨rfl,rfl⟩)
   ·have c:CS (ln l)=false:=nf aq
    go_ret;exact⟨aF (by rw[t.oQ];exact(show j9 d l=false from by rw[j9,c];rfl).symm),a⟩
   ·have c:CS (ln l)=true:=nt aq
    go_roundw
    case rel=>exact⟨1,om,gn,a,⟨λ_=>c,λh=>absurd h om,λh=>absurd h om,λh=>absurd h om⟩⟩
    case measure=>simp[intOf]
  ·subst J
   have x:=(a.cell (p:=(Y G 1)) (aA n)).trans n;clear m n o q
   go_wp2_with (go_at_call 274;refine(LL l r f _ (A.zL a) u).mono ?_;rintro e w1 ⟨rfl,g⟩;have a:aG w w1:=bI a (nlq _) g)
   ·have c:l.all gG=false:=nf aq
    go_ret;exact⟨aF (by rw[t.oQ];exact(show j9 d l=false from by rw[j9,c];simp).symm),a⟩
   ·have c:l.all gG=true:=nt aq
    go_roundw
    case rel=>exact⟨2,om,gn,a,⟨λ_=>b.out.1 om,λ_=>c,λh=>absurd h om,λh=>absurd h om⟩⟩
    case measure=>simp[intOf]
  ·subst K
   have x:=(a.cell (p:=(Y G 2)) (aA o)).trans o;clear m n o q
   go_wp2_with (go_at_call 275;refine(MX r f l (b.out.2.1 om) (K4 (b.out.1 om)) u _ (A.zL a)).mono ?_;rintro e w1 ⟨rfl,g⟩;have a:aG w w1:=bI a (nlq _) g)
   ·have c:iR l=false:=nf aq
    go_ret;exact⟨aF (by rw[t.oQ];exact(show j9 d l=false from by rw[j9,c];simp).symm),a⟩
   ·have c:iR l=true:=nt aq
    go_roundw
    case rel=>exact⟨3,om,gn,a,⟨λ_=>b.out.1 om,λ_=>b.out.2.1 om,λ_=>c,λh=>absurd h om⟩⟩
    case measure=>simp[intOf]
  ·subst L
   have x:=(a.cell (p:=(Y G 3)) (aA q)).trans q;clear m n o q
   go_wp2_with (go_at_call 276;refine(XE d l v r D f B _ ((a.cell (p:=(Y B 0)) (aA s.oQ)).trans s.oQ) (z.zL a) (A.zL a) C u (K4 (b.out.1 om))).mono ?_;rintro e w1 ⟨rfl,g⟩;have a:aG w w1:=bI a (nlq _) g)
   ·have c:yO d l=false:=nf aq
    go_ret;exact⟨aF (by rw[t.oQ];exact(show j9 d l=false from by rw[j9,c];simp).symm),a⟩
   ·have c:yO d l=true:=nt aq
    go_roundw
    case rel=>exact⟨4,om,gn,a,⟨λ_=>b.out.1 om,λ_=>b.out.2.1 om,λ_=>b.out.2.2.1 om,λ_=>c⟩⟩
    case measure=>simp[intOf]
  ·subst M
   clear m n o q;go_wp2
   go_ret;obtain⟨N,q1,O,P⟩:=b.out;exact⟨aF (by rw[t.oQ,j9,N om,q1 om,O om,P om];rfl),a⟩
theorem EX (b:List Fx)(l:List Cx)(c d:Oa)(i a:Nat)(w:Wd)(g:Xs 3 Fx.cells w c b)(j:Xs 2 Cx.cells w d l)(h:ln b<=1048576)(k:ln l<=1048576):
 aW 253 #[.slice c (ln b) i,.slice d (ln l) a] w λe w'=>e=rt (.bool (j9 b l))/\aG w w':=by
 go_enter func253,ntmps253;go_wp2_with fail;refine(JU b l c d i a (w.heap.size+1) w.heap.size _ (g.zL (aC (aC (br _ _) _) _)) (j.zL (aC (aC (br _ _) _) _)) h k sm sm sm sm sm).mono ?_;rintro e w1 ⟨rfl,f⟩;go_wp2_with fail;go_ret;exact⟨rfl,aE (aC (aC (br _ _) _) _) f⟩
theorem OH (f:List Fx)(l:List Yx)(G H:Oa)(M A:Nat)(w:Wd)(x:Xs 3 Fx.cells w G f)(O:Xs 1 Yx.cells w H l)(z:ln f<=1048576)(hn:ln l<=1048576)(N:∀y∈l,y.In w/\(ln y.l)<=1048576):
 aW 210 #[.slice G (ln f) M,.slice H (ln l) A] w λe w'=>e=rt (.bool (n6 f l))/\aG w w':=by
 by_cases t:1<=ln l/\(ln l)<=3
 ·obtain⟨V,o⟩:=bQ (n6 f l)
  rw[←o];have F:Hid (V=l.all λy=>j9 f y.l):=by rw[Hid,o,n6,pK,det t];rfl
  clear o;have u:(1:Int)<=(ln l:Int):=om
  have B:(ln l:Int)<=3:=om
  clear t
  go_enter func210,ntmps210
  go_wp2
  go_loopw [17] (λi wr=>∃k:Nat,k<=ln l/\i=I k/\aG w wr/\Hid ((l.take k).all (λy=>j9 f y.l)=true)) (λi _=>ln l-(intOf i).toNat)
  case atStart=>exact⟨0,nz _,rfl,br _ _,by simp[Hid]⟩
  case round=>
   obtain⟨k,hk,rfl,C,s⟩:=hrel
   by_cases j:k<ln l
   ·rcases O with h|⟨bl,off,rfl,J⟩
    ·subst h;simp at j
    ·have r:=(J k j).zL C
     have g:=N l[k] (lgm j);obtain⟨b,q⟩:=bQ (l[k]);rw[←q]at r g;have D:=aI q;clear q J;have L:=RI r;rw[Nat.mul_one]at L;clear r;have d:aG w _:=mG C (nlq _) (.cells #[.slice b.a (ln b.l) b.c] 89);obtain⟨v,K⟩:=bQ (j9 f b.l);have m:=aI K;clear K
     cases v with
     |false=>
      go_wp2_with (go_at_call 253;refine(EX f b.l _ _ _ _ _ (x.zL d) (g.1.zL d) z g.2).mono ?_;rintro e w1 ⟨rfl,p⟩;rw[←m.oQ];have n:aG w w1:=aE d p)
      go_ret;exact⟨aF (by rw[F.oQ];exact(jP _ l k j (by rw[←D.oQ];exact m.oQ.symm)).symm),n⟩
     |true=>
      go_wp2_with (go_at_call 253;refine(EX f b.l _ _ _ _ _ (x.zL d) (g.1.zL d) z g.2).mono ?_;rintro e w1 ⟨rfl,p⟩;rw[←m.oQ];have n:aG w w1:=aE d p)
      go_roundw
      case rel=>exact⟨k+1,om,gn,n,by rw[Hid,nJ _ l k j,s.out,←D.oQ,←m.oQ];rfl⟩
      case measure=>simp[intOf];omega
   ·go_wp2
    go_ret;refine⟨aF ?_,C⟩;rw[ltl om]at s;rw[F.oQ];exact s.out.symm
 ·have o:n6 f l=false:=by rw[n6,pK,def0 t];rfl
  rw[o]
  by_cases h1:1<=ln l
  ·have u:(1:Int)<=(ln l:Int):=om
   have B:3<(ln l:Int):=om
   have d1:decide ((ln l:Int)<1)=false:=by simp;omega
   clear t o
   go_enter func210,ntmps210
   go_wp2
   go_ret;exact⟨rfl,br _ _⟩
  ·have u:(ln l:Int)<1:=om
   clear t o
   go_enter func210,ntmps210
   go_wp2
   go_ret;exact⟨rfl,br _ _⟩
theorem GS (l:List Int)(v:Oa)(t:Nat)(w:Wd)(A:Xs 1 dV w v l)(hn:ln l<=1048576):
 aW 212 #[.slice v (ln l) t] w λe w'=>e=rt (.bool (jD l))/\aG w w':=by
 by_cases m:1<=ln l/\(ln l)<=6
 ·obtain⟨V,c⟩:=bQ (jD l)
  rw[←c];have s:Hid (V=l.all zD):=by rw[Hid,c,jD,GJ,det m];rfl
  clear c;have n:(1:Int)<=(ln l:Int):=om
  have u:(ln l:Int)<=6:=om
  clear m
  go_enter func212,ntmps212
  go_wp2
  go_loopw [15] (λi wr=>∃k:Nat,k<=ln l/\i=I k/\aG w wr/\Hid ((l.take k).all zD=true)) (λi _=>ln l-(intOf i).toNat)
  case atStart=>exact⟨0,nz _,rfl,br _ _,by simp[Hid]⟩
  case round=>
   obtain⟨k,hk,rfl,o,g⟩:=hrel
   by_cases a:k<ln l
   ·rcases A with h|⟨bl,off,rfl,y⟩
    ·subst h;simp at a
    ·have f:=(y k a).zL o
     obtain⟨b,d⟩:=bQ (l[k]);rw[←d]at f;have r:=aI d;clear d y;have z:=RM f;rw[Nat.mul_one]at z;clear f
     by_cases p:1<=b
     ·by_cases q:b<=6
      ·have j:Hid (zD b=true):=det ⟨p,q⟩
       have x:decide (b<1)=false:=by simp;omega
       go_wp2
       go_roundw
       case rel=>exact⟨k+1,om,gn,o,by rw[Hid,nJ _ l k a,g.out,←r.oQ,j.oQ];rfl⟩
       case measure=>simp[intOf];omega
      ·have j:Hid (zD b=false):=def0 (λh=>q h.2)
       have x:decide (b<1)=false:=by simp;omega
       go_wp2
       go_ret;exact⟨aF (by rw[s.oQ];exact(jP _ l k a (by rw[←r.oQ];exact j.oQ)).symm),o⟩
     ·have j:Hid (zD b=false):=def0 (λh=>p h.1)
      go_wp2
      go_ret;exact⟨aF (by rw[s.oQ];exact(jP _ l k a (by rw[←r.oQ];exact j.oQ)).symm),o⟩
   ·go_wp2
    go_ret;refine⟨aF ?_,o⟩;rw[ltl om]at g;rw[s.oQ];exact g.out.symm
 ·have c:jD l=false:=by rw[jD,GJ,def0 m];rfl
  rw[c]
  by_cases h1:1<=ln l
  ·have n:(1:Int)<=(ln l:Int):=om
   have u:6<(ln l:Int):=om
   have x:decide ((ln l:Int)<1)=false:=by simp;omega
   clear m c
   go_enter func212,ntmps212
   go_wp2
   go_ret;exact⟨rfl,br _ _⟩
  ·have n:(ln l:Int)<1:=om
   clear m c
   go_enter func212,ntmps212
   go_wp2
   go_ret;exact⟨rfl,br _ _⟩
theorem SN (b:List Fx)(h:Oa)(g B:Nat)(x:Wx)(w:Wd)(a:w.cell? (Y B 0)=some (.slice h (ln b) g))(d:ln b<=g)(j:g<=9223372036854775807)(l:Xs 3 Fx.cells w h b)(m:ln b<=1048576)(o:∀f∈b,f.n.size<=9223372036854775807):
 aW 202 #[x.val,E B 0] w λe w'=>e=rt (.bool (bU b))/\aG w w':=by
 have c:aG w (w.alloc x.obj):=aC (br _ _) _;have k:=(c.cell (p:=(Y B 0)) (aA a)).trans a;go_enter func202,ntmps202;go_wp2_with fail;refine(sE b h g d j _ (l.zL c) m o).mono ?_;rintro e w1 ⟨rfl,i⟩;go_wp2;go_ret;exact⟨rfl,aE c i⟩
theorem US (x:Wx)(w:Wd)(b:x.n.size<=9223372036854775807):
 aW 203 #[x.val] w λe w'=>e=rt (.bool (cO x.n))/\aG w w':=by
 go_enter func203,ntmps203;go_wp2_with fail;refine(uC x.n _ b).mono ?_;rintro e w1 ⟨rfl,a⟩;go_wp2;go_ret;exact⟨rfl,by first|exact aE (aC (br _ _) _) a|(subst a;exact aC (br _ _) _)⟩
theorem SY (c:List Fx)(d:Oa)(i B:Nat)(x:Wx)(w:Wd)(b:w.cell? (Y B 0)=some (.slice d (ln c) i))(g:Xs 3 Fx.cells w d c)(h:ln c<=1048576)(l:x.In w)(j:x.Fit):
 aW 209 #[x.val,E B 0] w λe w'=>e=rt (.bool (n6 c x.wl))/\aG w w':=by
 have a:aG w (w.alloc x.obj):=aC (br _ _) _;have k:=(a.cell (p:=(Y B 0)) (aA b)).trans b;go_enter func209,ntmps209;go_wp2_with fail;refine(OH c x.wl d _ i _ _ (g.zL a) (l.ws.zL a) h j.wn (λy m=>⟨(l.yn y m).zL a,j.yn y m⟩)).mono ?_;rintro e w1 ⟨rfl,f⟩;go_wp2;go_ret;exact⟨rfl,aE a f⟩
theorem UH (x:Wx)(w:Wd)(d:x.In w)(c:x.Fit):
 aW 211 #[x.val] w λe w'=>e=rt (.bool (jD x.ll))/\aG w w':=by
 have a:aG w (w.alloc x.obj):=aC (br _ _) _;go_enter func211,ntmps211;go_wp2_with fail;refine(GS x.ll _ _ _ (d.ls.zL a) c.ln).mono ?_;rintro e w1 ⟨rfl,b⟩;go_wp2;go_ret;exact⟨rfl,aE a b⟩
def JX (fl:List Fx)(x:Wx)(k:Nat):Prop:=(0<k->bU fl=true)/\(1<k->cO x.n=true)/\(2<k->oV x=true)/\(3<k->tR x.l=true)/\(4<k->n6 fl x.wl=true)/\(5<k->jD x.ll=true)
theorem KP (j:List Fx)(x:Wx)(J:Oa)(A G B:Nat)(w:Wd)(F:Xs 3 Fx.cells w J j)(H:ln j<=1048576)(D:ln j<=A)(L:A<=9223372036854775807)(X:∀f∈j,f.n.size<=9223372036854775807)(O:x.In w)(M:x.Fit)
 (o:w.cell? (Y G 0)=some (.func (.func 202) #[] #[E B 0]))(q:w.cell? (Y G 1)=some (.func (.func 203) #[] #[]))(r:w.cell? (Y G 2)=some (.func (.func 204) #[] #[]))
 (s:w.cell? (Y G 3)=some (.func (.func 208) #[] #[]))(t:w.cell? (Y G 4)=some (.func (.func 209) #[] #[E B 0]))(u:w.cell? (Y G 5)=some (.func (.func 211) #[] #[]))(N:w.cell? (Y B 0)=some (.slice J (ln j) A)):
 aW 201 #[x.val,.slice (some (Y G 0)) 6 6] w λe w'=>e=rt (.bool (eR j x))/\aG w w':=by
 obtain⟨V,K⟩:=bQ (eR j x);rw[←K];have y:=aI K;clear K;have m:=aI N;clear N
 go_enter Tryz.func201,Tryz.ntmps201
 go_wp2
 go_loopw [9] (λi wr=>∃k:Nat,k<=6/\i=I k/\aG w wr/\wr.heap[w.heap.size]?=some x.obj/\Hid (JX j x k)) (λi _=>6-(intOf i).toNat)
 case atStart=>exact⟨0,om,rfl,aC (br _ _) _,wnq w _,by simp[Hid,JX]⟩
 case round=>
  obtain⟨k,hk,rfl,b,a,d⟩:=hrel;obtain⟨z,b1,b2,b3,b4,b5,b6,b7⟩:=gT a;have v:k=0∨k=1∨k=2∨k=3∨k=4∨k=5∨k=6:=om
  rcases v with P|Q|R|S|T|U|W
  ·subst P
   have C:=(b.cell (p:=(Y G 0)) (aA o)).trans o;clear o q r s t u
   go_wp2_with (go_at_call 202;refine(SN j J A B x _ ((b.cell (p:=(Y B 0)) (aA m.oQ)).trans m.oQ) D L (F.zL b) H X).mono ?_;rintro e w1 ⟨rfl,c⟩;have a:=(c.block _ (aA z)).trans a;have b:aG w w1:=bI b (nlq _) c)
   ·have g:bU j=false:=nf aq
    go_ret;exact⟨aF (by rw[y.oQ];exact(show eR j x=false from by rw[eR,g];simp).symm),b⟩
   ·have g:bU j=true:=nt aq
    go_roundw
    case rel=>exact⟨1,om,gn,b,a,⟨λ_=>g,λh=>absurd h om,λh=>absurd h om,λh=>absurd h om,λh=>absurd h om,λh=>absurd h om⟩⟩
    case measure=>simp[intOf]
  ·subst Q
   have C:=(b.cell (p:=(Y G 1)) (aA q)).trans q;clear o q r s t u
   go_wp2_with (go_at_call 203;refine(US x _ M.sn).mono ?_;rintro e w1 ⟨rfl,c⟩;have a:=(c.block _ (aA z)).trans a;have b:aG w w1:=bI b (nlq _) c)
   ·have g:cO x.n=false:=nf aq
    go_ret;exact⟨aF (by rw[y.oQ];exact(show eR j x=false from by rw[eR,g];simp).symm),b⟩
   ·have g:cO x.n=true:=nt aq
    go_roundw
    case rel=>exact⟨2,om,gn,b,a,⟨λ_=>d.out.1 om,λ_=>g,λh=>absurd h om,λh=>absurd h om,λh=>absurd h om,λh=>absurd h om⟩⟩
    case measure=>simp[intOf]
  ·subst R
   have C:=(b.cell (p:=(Y G 2)) (aA r)).trans r;clear o q r s t u
   go_wp2_with (go_at_call 204;refine(VV x _).mono ?_;rintro e w1 ⟨rfl,c⟩;have a:=(c.block _ (aA z)).trans a;have b:aG w w1:=bI b (nlq _) c)
   ·have g:oV x=false:=nf aq
    go_ret;exact⟨aF (by rw[y.oQ];exact(show eR j x=false from by rw[eR,g];simp).symm),b⟩
   ·have g:oV x=true:=nt aq
    go_roundw
    case rel=>exact⟨3,om,gn,b,a,⟨λ_=>d.out.1 om,λ_=>d.out.2.1 om,λ_=>g,λh=>absurd h om,λh=>absurd h om,λh=>absurd h om⟩⟩
    case measure=>simp[intOf]
  ·subst S
   have C:=(b.cell (p:=(Y G 3)) (aA s)).trans s;clear o q r s t u
   go_wp2_with (go_at_call 208;refine(SF x _).mono ?_;rintro e w1 ⟨rfl,c⟩;have a:=(c.block _ (aA z)).trans a;have b:aG w w1:=bI b (nlq _) c)
   ·have g:tR x.l=false:=nf aq
    go_ret;exact⟨aF (by rw[y.oQ];exact(show eR j x=false from by rw[eR,g];simp).symm),b⟩
   ·have g:tR x.l=true:=nt aq
    go_roundw
    case rel=>exact⟨4,om,gn,b,a,⟨λ_=>d.out.1 om,λ_=>d.out.2.1 om,λ_=>d.out.2.2.1 om,λ_=>g,λh=>absurd h om,λh=>absurd h om⟩⟩
    case measure=>simp[intOf]
  ·subst T
   have C:=(b.cell (p:=(Y G 4)) (aA t)).trans t;clear o q r s t u
   go_wp2_with (go_at_call 209;refine(SY j J A B x _ ((b.cell (p:=(Y B 0)) (aA m.oQ)).trans m.oQ) (F.zL b) H (O.zL b) M).mono ?_;rintro e w1 ⟨rfl,c⟩;have a:=(c.block _ (aA z)).trans a;have b:aG w w1:=bI b (nlq _) c)
   ·have g:n6 j x.wl=false:=nf aq
    go_ret;exact⟨aF (by rw[y.oQ];exact(show eR j x=false from by rw[eR,g];simp).symm),b⟩
   ·have g:n6 j x.wl=true:=nt aq
    go_roundw
    case rel=>exact⟨5,om,gn,b,a,⟨λ_=>d.out.1 om,λ_=>d.out.2.1 om,λ_=>d.out.2.2.1 om,λ_=>d.out.2.2.2.1 om,λ_=>g,λh=>absurd h om⟩⟩
    case measure=>simp[intOf]
  ·subst U
   have C:=(b.cell (p:=(Y G 5)) (aA u)).trans u;clear o q r s t u
   go_wp2_with (go_at_call 211;refine(UH x _ (O.zL b) M).mono ?_;rintro e w1 ⟨rfl,c⟩;have a:=(c.block _ (aA z)).trans a;have b:aG w w1:=bI b (nlq _) c)
   ·have g:jD x.ll=false:=nf aq
    go_ret;exact⟨aF (by rw[y.oQ];exact(show eR j x=false from by rw[eR,g];simp).symm),b⟩
   ·have g:jD x.ll=true:=nt aq
    go_roundw
    case rel=>exact⟨6,om,gn,b,a,⟨λ_=>d.out.1 om,λ_=>d.out.2.1 om,λ_=>d.out.2.2.1 om,λ_=>d.out.2.2.2.1 om,λ_=>d.out.2.2.2.2.1 om,λ_=>g⟩⟩
    case measure=>simp[intOf]
  ·subst W
   clear o q r s t u;go_wp2
   go_ret;obtain⟨Z,q1,q2,q3,q4,q5⟩:=d.out;exact⟨aF (by rw[y.oQ,eR,Z om,q1 om,q2 om,q3 om,q4 om,q5 om];rfl),b⟩
theorem vE (a:List Fx)(x:Wx)(c:Oa)(b:Nat)(w:Wd)(k:Xs 3 Fx.cells w c a)(l:ln a<=1048576)(g:ln a<=b)(j:b<=9223372036854775807)(s:∀f∈a,f.n.size<=9223372036854775807)(r:x.In w)(q:x.Fit):
 aW 157 #[.slice c (ln a) b,x.val] w λe w'=>e=rt (.bool (eR a x))/\aG w w':=by
 have d:aG w ((w.alloc (.cells #[.slice c (ln a) b] 28)).alloc x.obj):=aC (aC (br _ _) _) _;have h:=wnq ((w.alloc (.cells #[.slice c (ln a) b] 28)).alloc x.obj) (.cells #[.func (.func 202) #[] #[ea w 0],.func (.func 203) #[] #[],.func (.func 204) #[] #[],.func (.func 208) #[] #[],.func (.func 209) #[] #[ea w 0],.func (.func 211) #[] #[]] 236);rw[wsa,wsa]at h;have m:=(halq ((w.alloc (.cells #[.slice c (ln a) b] 28)).alloc x.obj) (.cells #[.func (.func 202) #[] #[ea w 0],.func (.func 203) #[] #[],.func (.func 204) #[] #[],.func (.func 208) #[] #[],.func (.func 209) #[] #[ea w 0],.func (.func 211) #[] #[]] 236) w.heap.size so).trans ((halq (w.alloc (.cells #[.slice c (ln a) b] 28)) x.obj w.heap.size sm).trans (wnq w _));have p:Hid _:=h;have o:Hid _:=m;clear h m
 go_enter Tryz.func157,Tryz.ntmps157
 go_wp2_with fail
 refine(KP a x c b (w.heap.size+1+1) w.heap.size _ (k.zL (aC d _)) l g j s (r.zL (aC d _)) q ?g0 ?g1 ?g2 ?g3 ?g4 ?g5 ?g6).mono ?_
 all_goals try (first|exact aB p.oQ rfl|exact aB o.oQ rfl)
 rintro e w1 ⟨rfl,i⟩;go_wp2_with fail
 go_ret;exact⟨rfl,aE (aC d _) i⟩
end Go.Proofs.YtoolgmmljacfmaaGreatDoor
namespace Go.Proofs.YtoolgmmljacfmaaGreatDoor
open Go.Shelf
attribute [local go_sem] Oper.semAt_some
variable {w w' n:Wd}{m k z:Nat}{a:Oa}{l:List Bx}{b:Bk}{x:Wx}{v:Va}{W:Int}{P:Int → Prop}{o:Obj}{X:Nat → Prop}{j:Option Nat}{i:List Fx}
theorem OS (P:Program)(w:Wd)(a:Addr)(m:Mode)(f:Fn)(b:Array Va)(c:Array Va):(store a (.func f b c) m).run P w=stored P w a (.func f b c) m:=run_store P w a _ m rfl
attribute [local go_sem] OS
abbrev CP (z:Nat):Obj:=.cells #[.func (.func 277) #[] #[E (z+3) 0,E z 0,E (z+1) 0]] 301
def CK (w w':World):Prop:=∀p v,w.cell? p=some v->w'.cell? p=some v
theorem bE.ck (h:bE (λ_=>False) w w'):CK w w':=λ_ _ a=>h.cell (λe=>e) a
theorem Xs.ck {α:Type}{f:α->List Va}{l:List α}(h:Xs m f w a l)(c:CK w w'):Xs m f w' a l:=by
 rcases h with h|⟨d,b,e,g⟩;·exact .inl h
 ·exact .inr ⟨d,b,e,λk n j v i=>c _ _ (g k n j v i)⟩
theorem jG.ck (h:jG w a l)(c:CK w w'):jG w' a l:=by
 rcases h with h|⟨d,b,e,o⟩;·exact .inl h
 ·refine .inr ⟨d,b,e,λk p=>?_⟩;obtain⟨f,g,i,j,m,n⟩:=o k p;exact⟨c _ _ f,c _ _ g,c _ _ i,c _ _ j,c _ _ m,c _ _ n⟩
theorem iX.ck (h:iX w b)(c:CK w w'):iX w' b:=
 ⟨h.hf.ck c,h.hnf,h.hcap,h.hc2,h.hs,h.hh.ck c,h.hnh,λx hx=>⟨⟨(h.hgood x hx).1.1.ck c,(h.hgood x hx).1.2.ck c⟩,(h.hgood x hx).2⟩⟩
theorem iL.ck (h:iL w x)(c:CK w w'):iL w' x:=⟨⟨h.hi.ws.ck c,λy m=>Xs.ck (h.hi.yn y m) c,h.hi.ls.ck c⟩,h.hf,h.hc⟩
def isCh (o:Obj):Prop:=∃cs,o=.cells cs 79∨o=.cells cs 149
def XC (z k:Nat)(o:Obj):Prop:=z<=k/\isCh o
theorem nCh (a:Array Va)(t:Nat)(b:t≠79)(c:t≠149):¬XC m k (.cells a t):=by
 rintro⟨_,cs,e|e⟩;·injection e with _ e;exact b e
 ·injection e with _ e;exact c e
theorem fC.cell {X:Nat->Obj->Prop}(h:fC X w w'){p:Addr}(hx:∀o,¬X p.block o)(a:w.cell? p=some v):w'.cell? p=some v:=by
 obtain⟨o,e,b⟩:=cells_of_cell a;have h':=h.c _ _ (hx o) e b;unfold World.cell? at a ⊢;rw[e]at a;rw[h'];exact a
theorem ck_of (c:aG w w')(h:fC (XC w.heap.size) w' n):CK w n:=λp v b=>
 h.cell (p:=p) (λo e=>by have:=aA b;have:=e.1;omega) (ctq c b)
theorem qI.keep (h:qI W P v w)(m:fC (XC z) w w'):qI W P v w':=by
 obtain⟨p,i,l,r,n,s,t⟩:=h;refine⟨p,i,l,r,?_,s,t⟩;rcases n.2 with e|⟨g,d,q,e,o⟩;·exact⟨.inl e,.inl e⟩
 ·have b:=m.c g _ (nCh _ _ dz dz) o rfl;refine⟨?_,.inr ⟨g,d,q,e,b⟩⟩;rcases n.1 with f|⟨bl2,off2,f,x⟩;·exact .inl f
  ·rw[e]at f;cases f;refine .inr ⟨g,d,e,λk m j u y=>?_⟩;have:=x k m j u y;unfold World.cell? at this ⊢;simp only[o,b]at this ⊢;exact this
theorem qK.turn {z z0:Nat}(h:qK z b x w)(a:fC (XC z0) w w')(r:∀o,w.heap[z+2]?=some o->o.isCells=false->w'.heap[z+2]?=some o):qK z b x w':=by
 obtain⟨j,l,n,d,c,p,q⟩:=h;exact⟨a.c _ _ (nCh _ _ dz dz) j rfl,a.c _ _ (nCh _ _ dz dz) l rfl,a.c _ _ (nCh _ _ dz dz) n rfl,d,c,r _ p rfl,λe m=>by obtain⟨i,k,f,g⟩:=q e m;exact⟨i,k,f,g.keep a⟩⟩
theorem lG.keepX (h:lG m w w')(c:w.heap[m]?=some o)(d:o.isCells=false):bE X w w':=
 ⟨h.size,λk u _ a b=>(h.block k (cE a) (λe=>by subst e;rw[c]at a;cases a;rw[d]at b;cases b)).trans a⟩
theorem lG.grown (h:lG m w w'):w.grownBy w' (some m):=⟨h.os,h.tape,h.output,h.size,λk a b=>h.block k a (λe=>b (by rw[e]))⟩
theorem mN {X:Nat->Prop}(f:w.grownBy w' j)(i:∀r,j=some r->∃o:Obj,w.heap[r]?=some o/\o.isCells=false):bE X w w':=
 ⟨f.size,λk o _ b h=>(f.block k (cE b) (λe=>by obtain⟨u,g,d⟩:=i k e.symm;rw[b]at g;cases g;rw[h]at d;cases d)).trans b⟩
theorem qK.own {β:Type}(hz:z+3<m):OwnFrom m (λ(_:β) W=>qK z b x W):=λ_ A A' row f a d=>
 f.turn (z0:=0) (fC.of_keepX (mN a (λr e=>(d r e).2))) (λo c _=>(a.block _ (cE c) (λe=>by have:=(d _ e.symm).1;omega)).trans c)
theorem EB {β:Type}{X:Nat->Obj->Prop}:OwnFrom m (λ(_:β) W=>fC X w W):=λ_ _ _ _ c a b=>c.trans (fC.of_keepX (mN a (λr e=>(b r e).2)))
def qB (b:Bk)(x:Wx){L:Nat}(c:CoB L):Bool:=tK b x c.1.d c.1.i c.1.k
theorem tY (h:iX w b)(v:Bool)(a:aO b=v):aW 75 #[b.val] w λe w'=>e=rt (.bool v)/\aG w w':=
 vC (h.with (t:=[]) (ta:=none) (.inl rfl) sm) v a
def LF (b:Bk)(x:Wx):List (CoB x.l.toNat):=if aO b&&eR b.fl x then(kX x.l.toNat x.wl.length x.ll.length (x.l.toNat+1)).filter (qB b x)else[]
def NC (b:Bk)(x:Wx):Nat:=if eR b.fl x then(kX x.l.toNat x.wl.length x.ll.length (x.l.toNat+1)).length else 0
theorem TJ (h:eR i x=true):0<=x.f/\0<=x.q:=by
 simp only[eR,oV,bat,dte]at h;omega
theorem FP (h:aO b=true):0<=b.now/\b.now<=10000:=by
 simp only[aO,oL,bat,dte]at h;omega
theorem wY (n:Nat)(hn:9<=n)(b:Bk)(x:Wx)(M Bx:Nat)(w0 w:Wd)(yh:aG w0 w)(zk:w0.heap[M]?=some b.obj)(zl:w0.heap[Bx]?=some x.obj)(hb:iX w0 b)(hx:iL w0 x):
 SeqT Fence.wide n Tryz.prog 254 #[E M 0,E Bx 0] (λc:CoB x.l.toNat=>#[c.1.val]) (fC (XC w0.heap.size)) (λys=>ys=LF b x) (λa=>a<+:LF b x) (NC b x) w:=λV J Jx W hW hJ zp hY h0=>by
 have h1:1<=n:=om
 have hW:=aE yh hW;have B0:=(hW.block M (cE zk)).trans zk;have X0:=(hW.block Bx (cE zl)).trans zl;have u:aG W (W.alloc (.cells #[.func (.yield V) #[] #[]] 301)):=aC (br _ _) _;have Y0:=wnq W (.cells #[.func (.yield V) #[] #[]] 301);have B:=btq u B0;have X1:=btq u X0;have k0:(W.alloc (.cells #[.func (.yield V) #[] #[]] 301)).cell? (Y M 0)=some (I b.now):=aB B rfl;have k1:(W.alloc (.cells #[.func (.yield V) #[] #[]] 301)).cell? (Y M 1)=some (fs b):=aB B rfl;have k2:(W.alloc (.cells #[.func (.yield V) #[] #[]] 301)).cell? (Y M 2)=some (hs b):=aB B rfl;obtain⟨v1,g1⟩:∃v,aO b=v:=⟨_,rfl⟩;obtain⟨v2,g2⟩:∃v,eR b.fl x=v:=⟨_,rfl⟩;obtain⟨T,hT⟩:=bQ (LF b x);rw[←hT];have HT:Hid (T=if v1&&v2 then(kX x.l.toNat (ln x.wl) (ln x.ll) (x.l.toNat+1)).filter (qB b x)else[]):=by rw[Hid,hT,LF,g1,g2]
 have G1:Hid _:=g1;have G2:Hid _:=g2;clear hT g1 g2;refine callsIn_of_wp_marks Tryz.func254 rfl trivial ?_ rfl;simp only[Tryz.ntmps254,lsz,llc,lln,Nat.reduceAdd,Nat.reduceSub,ars,arz,lpt,lap,lna,lca];gi_wp2_with fail
 refine⟨trivial,?_⟩;obtain⟨W1,zr⟩:=cI (W.alloc (.cells #[.func (.yield V) #[] #[]] 301));rw[zr]at u Y0 B X1 k0 k1 k2 ⊢;clear zr k0 k1 k2;have zu:=hb.zL hW;have yi:=hx.zL hW;refine(cw.2 (tY (zu.zL u) v1 G1.out)).mono ?_;rintro e W2 ⟨rfl,C⟩;have N2:=aE u C;have zn:J [] W2:=hJ _ _ _ none h0 (gK N2) (λr e=>by cases e);have Y2:=btq C Y0;have B2:=btq C B;have X2:=btq C X1;clear B0 X0 B X1 Y0 u C
 cases v1 with
 |false=>
  gi_wp2_with fail
  refine⟨trivial,?_⟩;gi_wp2;exact⟨_,results_none rfl _ _ _,⟨_,rfl⟩,.inl ⟨_,rfl,by rw[HT.oQ];exact zn⟩⟩
 |true=>
 have k1:W2.cell? (Y M 1)=some (fs b):=aB B2 rfl;obtain⟨q0,q1,q2,q3,q4,q5,q6,q7⟩:=gT X2;have m:=zu.zL N2;have H:=yi.zL N2;gi_wp2_with fail
 refine⟨trivial,?_⟩;refine(cw.2 (vE b.fl x b.fa b.fc W2 m.hf m.hnf m.hcap m.hc2 m.hs H.hi H.hf)).mono ?_;rintro e g ⟨rfl,F⟩;rw[G2.out];have N3:=aE N2 F;have O:J [] g:=hJ _ _ _ none h0 (gK N3) (λr e=>by cases e);have Y3:=btq F Y2;have B3:=btq F B2;have X3:=btq F X2;clear Y2 B2 X2 zn k1 q0 q1 q2 q3 q4 q5 q6 q7 N2 F m H
 cases v2 with
 |false=>
  gi_wp2;exact⟨_,results_none rfl _ _ _,⟨_,rfl⟩,.inl ⟨_,rfl,by rw[HT.oQ];exact O⟩⟩
 |true=>
 obtain⟨k0,k1,k2⟩:=aM B3;obtain⟨q0,q1,q2,q3,q4,q5,q6,q7⟩:=gT X3;gi_wp2_with fail
 refine⟨trivial,?_⟩;refine(cw.2 (NU b x g)).mono ?_;rintro e t ⟨rfl,P,za⟩;have X4:=btq P X3;have Y4:=btq P Y3;clear k0 k1 k2 q0 q1 q2 q3 q4 q5 q6 q7;have N4:=aE N3 P;have z:aG t (t.alloc (CP g.heap.size)):=aC (br _ _) _;have L:=btq z X4;have Y5:=btq z Y4;have F5:=wnq t (CP g.heap.size);have zb:=za.zL z;have N5:=aE N4 z;have q0:(t.alloc (CP g.heap.size)).cell? (Y Bx 0)=some (.string x.n):=aB L rfl;have q1:(t.alloc (CP g.heap.size)).cell? (Y Bx 1)=some (I x.q):=aB L rfl;have q2:(t.alloc (CP g.heap.size)).cell? (Y Bx 2)=some (I x.s):=aB L rfl;have q3:(t.alloc (CP g.heap.size)).cell? (Y Bx 3)=some (I x.f):=aB L rfl;have q4:(t.alloc (CP g.heap.size)).cell? (Y Bx 4)=some (I x.b):=aB L rfl;have q5:(t.alloc (CP g.heap.size)).cell? (Y Bx 5)=some (I x.l):=aB L rfl;have q6:(t.alloc (CP g.heap.size)).cell? (Y Bx 6)=some (.slice x.wa (ln x.wl) x.wc):=aB L rfl;have q7:(t.alloc (CP g.heap.size)).cell? (Y Bx 7)=some (.slice x.la (ln x.ll) x.lc):=aB L rfl;have hz3:W.heap.size<=g.heap.size:=N3.size;have hz34:g.heap.size+4<=t.heap.size:=(cE za.hc);clear X4 Y4 za P X3 B3 Y3 O N4;gi_wp2_with fail
 refine⟨trivial,?_⟩;obtain⟨W5,zt⟩:=cI (t.alloc (CP g.heap.size));rw[zt]at z L Y5 F5 zb N5 ⊢;clear q0 q1 q2 q3 q4 q5 q6 q7 zt;refine(cw.2 (DQ x W5)).mono ?_;rintro e W6 ⟨rfl,G,C6⟩;have Y6:=btq G Y5;have F6:=btq G F5;have zz:=zb.zL G;have N6:=aE N5 G;have yb:J [] W6:=hJ _ _ _ none h0 (gK N6) (λr e=>by cases e);have hz6:t.heap.size<W6.heap.size:=(cE F6);obtain⟨hwl,hll,yc,yd⟩:=CL G2.out;obtain⟨yj,yk⟩:=TJ G2.out;obtain⟨ye,yf⟩:=FP G1.out;have zi:Hid (x.l=(x.l.toNat:Int)):=by rw[Hid];omega
 have zj:=aE hW N6;clear L Y5 F5 zb N5 z G;gi_wp2_with fail
 refine wpIn_rangeFunc_ownH rfl h1 (gf:=279) (lb:=#[ea W5 0]) rfl trivial (enters_of Tryz.func279 kr rfl)
  (CC (n-1) W5.heap.size x.l.toNat x zi.oQ om hx.hf (fC (XC w0.heap.size)) (λ_ _ h e=>h.c _ _ (nCh _ _ dz dz) e rfl) W6 C6)
  Q9 (ZP) (br _ _) (λ_=>rfl)
  (λa j=>J (a.filter (qB b x)) j/\fC (XC w0.heap.size) W6 j/\qK g.heap.size b x j)
  (λc a j=>c=.ret/\Jx (a.filter (qB b x)) j)
  ?hI ?hIx ⟨yb,fC.refl _ _,zz⟩
  (λy a' j=>∃B,j.heap[B]?=some y.1.obj/\a'={ tmps:=#[.func (.yield V) #[] #[],E M 0,E Bx 0,ea W 0,ea t 0,E B 0,b.val,.bool true,.bool false,.bool false,E M 1,fs b,x.val,.bool true,.bool false,.bool false,b.val,x.val,
   .func (.func 277) #[] #[E (g.heap.size+3) 0,ea g 0,E (g.heap.size+1) 0],x.val,.func (.func 279) #[] #[ea W5 0],y.1.val,undef,undef,undef,undef,undef,undef,undef,undef,undef],defers:=[]})
  ?hAx ?assign ?body ?done ?stop
 case hI=>
  refine OwnFrom.and (λs A A' R yg hg hr=>(OwnFrom.mono hJ om) _ A A' R yg hg hr) (OwnFrom.and EB (qK.own om))
 case hIx=>exact λc=>OwnFrom.and (ownFrom_pure _ _) (λs A A' R yg hg hr=>(OwnFrom.mono zp om) _ A A' R yg hg hr)
 case hAx=>
  rintro y a' _ A A' R ⟨B,e1,e3⟩ hg hr;exact⟨B,(mN (X:=λ_=>False) hg (λr e=>(hr r e).2)).c _ _ (λe=>e) e1 rfl,e3⟩
 case assign=>
  rintro l2 a y j K ⟨S,U,hF⟩ hK;gi_wp2;have ha:aG j (j.alloc y.1.obj):=aC (br _ _) _;exact hK _ _ ((KeepsOthers.alloc _ _).from _) (fC.of_below ha) ⟨hJ.alloc _ S,U.trans (fC.of_below ha),hF.zL ha⟩ ⟨j.heap.size,wnq j y.1.obj,rfl⟩
 case body=>
  rintro l2 a y a' j hl2 ⟨r,hr⟩ ⟨S,U,hF⟩ ⟨B,e1,rfl⟩ zx;have cF:j.cell? (ya t 0)=some (.func (.func 277) #[] #[E (g.heap.size+3) 0,ea g 0,E (g.heap.size+1) 0]):=aB (U.c _ _ (nCh _ _ dz dz) F6 rfl) rfl;obtain⟨c0,c1,c2⟩:=aM e1;have h1':1<=n-1-1:=om
  have zy:=y.2;have HY:Hid _:=hY;clear hY;gi_wp2_with fail
  refine⟨trivial,?_⟩;refine(CallsIn.inRound l2 (QA (n-1-1-1) om g.heap.size b x y.1.d y.1.i y.1.k j hF (hb.ck (ck_of zj U)) (hx.ck (ck_of zj U)) G1.out ye yf yc yd yj yk zy.1 (Int.le_trans zy.2 (Int.le_of_eq zi.oQ.symm)))).mono ?_;rintro e Z ⟨rfl,p,zm⟩;obtain⟨es,ck,zh,_⟩:=hF.hm;have zw:bE (λ_=>False) j Z:=p.keepX zh rfl;have zc:KeepsFrom W6.heap.size j Z:=⟨p.size,λk o hk6 hh _=>(p.block k (cE hh) om).trans hh⟩;have zv:J (a.filter (qB b x)) Z:=hJ _ _ _ (some (g.heap.size+2)) S p.grown (λr e=>by cases e;exact⟨om,_,zh,rfl⟩);have zg:fC (XC w0.heap.size) j Z:=fC.of_keepX zw;have ze:fC (XC w0.heap.size) W6 Z:=U.trans zg;obtain⟨v,hv⟩:=cI (tK b x y.1.d y.1.i y.1.k);have Q:qB b x y=v:=hv;rw[hv];have cY:Z.cell? (ya W 0)=some (.func (.yield V) #[] #[]):=aB (ze.c _ _ (nCh _ _ dz dz) Y6 rfl) rfl;obtain⟨d0,d1,d2⟩:=aM (zw.c _ _ (λe=>e) e1 rfl);clear hF S U cF c0 c1 c2 p zh hv
  cases v with
  |true=>
   have hf:(a++[y]).filter (qB b x)=a.filter (qB b x)++[y]:=by simp[Q]
   obtain⟨fn,tmps,assign,body,hy,hR⟩:=HY.oQ (a.filter (qB b x)) y Z zv (by rw[NC,if_pos G2.out];exact Nat.lt_of_le_of_lt (List.length_filter_le _ _) zx);have HR:=hR;have N:Hid _:=hf;clear hR HY Q hf;gi_wp2_with fail
   refine RoundIn.mono (tP l2 (sF rfl HR)) ?_;clear HR hy d0 d1 d2
   rintro e Wr ⟨zf,⟨rfl,O,zd⟩|⟨rfl,zq⟩⟩
   ·gi_wp2
    exact⟨zc.trans (KeepsFrom.mono zf om),zg.trans zd,by rw[N.oQ];exact O,ze.trans zd,zm.turn zd (λo yl hc=>zf.same _ _ om yl hc)⟩
   ·gi_wp2
    exact⟨zc.trans (KeepsFrom.mono zf om),rfl,by rw[N.oQ];exact zq⟩
  |false=>
   have hf:(a++[y]).filter (qB b x)=a.filter (qB b x):=by simp[Q]
   have N:Hid _:=hf;clear HY Q hf;gi_wp2_with fail
   refine⟨λ_ h=>(by cases h),?_⟩;gi_wp2;exact⟨zc,zg,by rw[N.oQ];exact zv,ze,zm⟩
 case done=>
  rintro D zs j hD rfl ⟨S,U,hF⟩ hK;gi_wp2;refine⟨sm,.inl ⟨_,_,rfl,rtd hK,?_⟩⟩;exact⟨_,results_none rfl _ _ _,⟨_,rfl⟩,.inl ⟨_,rfl,by rw[HT.oQ];exact hJ.putObj _ S om hK rfl⟩⟩
 case stop=>
  rintro D c a j hD hq ⟨rfl,S⟩ hK;gi_wp2;refine⟨sm,.inl ⟨_,_,rfl,rtd hK,?_⟩⟩;exact⟨_,results_none rfl _ _ _,⟨_,rfl⟩,.inr ⟨_,by rw[HT.oQ];exact hq.filter _,zp.putObj _ S om hK rfl⟩⟩
end Go.Proofs.YtoolgmmljacfmaaGreatDoor
namespace Go.Proofs.YtoolgmmljacfmaaGreatDoor
open Go.Shelf
attribute [local go_sem] Oper.semAt_some
variable {L d:Nat}
theorem JO (b:Bk)(x:Wx)(h:d<=L)(i:Nat):∀k,((x8 L d i k).filter (qB b x)).map (·.1)=lM b x (d:Int) (i:Int) k
 |0=>rfl
 |k+1=>by
  rw[sR,lfa,lmp,JO b x h i k];cases hc:tK b x (d:Int) (i:Int) (k:Int)with
  |true=>
   have a:qB b x (L6 L d i k)=true:=by rw[qB,zW i k h];exact hc
   rw[MD hc];simp[a,zW i k h]
  |false=>
   have a:qB b x (L6 L d i k)=false:=by rw[qB,zW i k h];exact hc
   rw[QY hc];simp[a]
theorem LV (b:Bk)(x:Wx)(h:d<=L):∀i,((xS L (ln x.ll) d i).filter (qB b x)).map (·.1)=mS b x (d:Int) i
 |0=>rfl
 |i+1=>by rw[sN,lfa,lmp,LV b x h i,JO b x h i,xL]
theorem FM (b:Bk)(x:Wx):∀n,n<=L+1->((kX L (ln x.wl) (ln x.ll) n).filter (qB b x)).map (·.1)=gV b x n
 |0,_=>rfl
 |n+1,h=>by rw[pN,lfa,lmp,FM b x n om,LV b x om,uG]
theorem WB (b:Bk)(x:Wx):(LF b x).map (·.1)=tH b x:=by
 unfold LF tH;split;·exact FM b x _ (nlq _)
 ·rfl
theorem KV (n:Nat)(hn:10<=n)(b:Bk)(x:Wx)(w:Wd)(hb:iX w b)(hx:iL w x):
 CallsIn Fence.wide n Tryz.prog 158 #[b.val,x.val] w λe w'=>e=rt (gX (tH b x))/\aG w w':=by
 have h1:1<=n:=om
 rw[←WB];have u:aG w ((((w.alloc b.obj).alloc x.obj).alloc (jE 0 0 0)).alloc (.cells #[.bool false] 4)):=aC (aC (aC (aC (br _ _) _) _) _) _;have N:=(halq (((w.alloc b.obj).alloc x.obj).alloc (jE 0 0 0)) (.cells #[.bool false] 4) _ sm).trans (wnq ((w.alloc b.obj).alloc x.obj) (jE 0 0 0));have O:=wnq (((w.alloc b.obj).alloc x.obj).alloc (jE 0 0 0)) (.cells #[.bool false] 4);simp only[wsa]at N O;refine callsIn_of_wp_marks Tryz.func158 rfl trivial ?_ rfl;simp only[Tryz.ntmps158,lsz,llc,lln,Nat.reduceAdd,Nat.reduceSub,ars,arz,lpt,lap,lna,lca];gi_wp2_with fail
 refine⟨trivial,?_⟩;obtain⟨W0,J⟩:=cI ((((w.alloc b.obj).alloc x.obj).alloc (jE 0 0 0)).alloc (.cells #[.bool false] 4));rw[J]at u N O ⊢;clear J;refine(cw.2 (zI b x W0)).mono ?_;rintro e P ⟨rfl,o,za,zb⟩;have T:=aE u o;have R1:=btq o N;have U:=btq o O;have hz1:w.heap.size+3<P.heap.size:=(cE U);clear N O o u;gi_wp2_with fail
 refine m8 rfl h1 (gf:=254) (lb:=#[ea W0 0,E (W0.heap.size+1) 0]) rfl trivial (enters_of Tryz.func254 kr rfl)
  (wY (n-1) om b x W0.heap.size (W0.heap.size+1) P P (br _ _) za zb (hb.zL T) (hx.zL T)) (br _ _) Q9 (λo' zd hc=>fC.putObj o' zd hc) (λ_=>rfl)
  (λg a=>g=[]/\aG w a/\bE (λ_=>False) P a)
  (λc g a=>c=.ret/\∃y,g=[y]/\aG w a/\a.cell? (Y (w.heap.size+1+1) 0)=some (I y.1.d)/\a.cell? (Y (w.heap.size+1+1) 1)=some (I y.1.i)/\a.cell? (Y (w.heap.size+1+1) 2)=some (I y.1.k)/\a.cell? (Y (w.heap.size+1+1+1) 0)=some (.bool true))
  ?hI ?hIx ⟨rfl,T,bE.refl _ _⟩
  (λy V a=>∃C,a.heap[C]?=some y.1.obj/\V={ tmps:=#[b.val,x.val,ea w 0,E (w.heap.size+1) 0,E (w.heap.size+1+1) 0,E (w.heap.size+1+1+1) 0,E C 0,b.val,x.val,.func (.func 254) #[] #[ea W0 0,E (W0.heap.size+1) 0],y.1.val,undef,undef],defers:=[]})
  ?hAx ?assign ?body ?done ?stop
 case hI=>exact OwnFrom.and (ownFrom_pure _ _) (OwnFrom.and (ownFrom_below (nlq _) om) mF)
 case hIx=>
  rintro c s A A' M ⟨e,y,e2,h3,h4,h5,h6,h7⟩ R q;have S:=(mN (X:=λ_=>False) R (λr e=>(q r e).2)).ck;exact⟨e,y,e2,(ownFrom_below (β:=Unit) (nlq _) om) () A A' M h3 R q,S _ _ h4,S _ _ h5,S _ _ h6,S _ _ h7⟩
 case hAx=>
  rintro y V _ A A' M ⟨C,e1,e3⟩ R q;exact⟨C,(mN (X:=λ_=>False) R (λr e=>(q r e).2)).c _ _ (λe=>e) e1 rfl,e3⟩
 case assign=>
  rintro l2 g y a K ⟨rfl,t,B⟩ v;gi_wp2;have ha:aG a (a.alloc y.1.obj):=aC (br _ _) _;exact v _ _ ((KeepsOthers.alloc _ _).from _) (fC.of_below ha) ⟨by first|exact trivial|rfl,aE t ha,B.trans (bE.of_below ha)⟩ ⟨a.heap.size,wnq a y.1.obj,rfl⟩
 case body=>
  rintro l2 g y V a hl2 ⟨r,q⟩ ⟨rfl,t,B⟩ ⟨C,e1,rfl⟩ hlt';have F:=B.c _ _ (λe=>e) R1 rfl;have G:=B.c _ _ (λe=>e) U rfl;obtain⟨c0,c1,c2⟩:=aM e1;obtain⟨r0,r1,r2⟩:=aM F;have s0:a.cell? (Y (w.heap.size+1+1+1) 0)=some (.bool false):=aB G rfl;have rf:=jS F;have sf:=jS G;have f:w.heap.size<=w.heap.size+1+1:=om
  have j:w.heap.size<=w.heap.size+1+1+1:=om
  gi_wp2;refine⟨((((KeepsOthers.setCell _ _ _).trans (KeepsOthers.setCell _ _ _)).trans (KeepsOthers.setCell _ _ _)).trans (KeepsOthers.setCell _ _ _)).from _,rfl,y,rfl,(((t.setCell (p:=(Y (w.heap.size+1+1) 0)) f _).setCell (p:=(Y (w.heap.size+1+1) 1)) f _).setCell (p:=(Y (w.heap.size+1+1) 2)) f _).setCell (p:=(Y (w.heap.size+1+1+1) 0)) j _,?_,?_,?_,?_⟩<;>simp[go_sem,r0,r1,r2,s0]
 case done=>
  rintro D zs a hD zc ⟨rfl,t,B⟩ v;have F:=B.c _ _ (λe=>e) R1 rfl;have G:=B.c _ _ (λe=>e) U rfl;obtain⟨r0,r1,r2⟩:=aM F;have s0:a.cell? (Y (w.heap.size+1+1+1) 0)=some (.bool false):=aB G rfl;have rf:=jS F;have sf:=jS G;have f:w.heap.size<=w.heap.size+1+1:=om
  have j:w.heap.size<=w.heap.size+1+1+1:=om
  have L:Hid ((LF b x).map (·.1)=[]):=by rw[Hid,←zc];rfl
  gi_wp2;have H:=(((t.setCell (p:=(Y (w.heap.size+1+1) 0)) f (I 0)).setCell (p:=(Y (w.heap.size+1+1) 1)) f (I 0)).setCell (p:=(Y (w.heap.size+1+1) 2)) f (I 0)).setCell (p:=(Y (w.heap.size+1+1+1) 0)) j (.bool false);have m:=((((KeepsOthers.setCell a (Y (w.heap.size+1+1) 0) (I 0)).trans (KeepsOthers.setCell _ (Y (w.heap.size+1+1) 1) (I 0))).trans (KeepsOthers.setCell _ (Y (w.heap.size+1+1) 2) (I 0))).trans (KeepsOthers.setCell _ (Y (w.heap.size+1+1+1) 0) (.bool false))).same D _ v rfl;obtain⟨Q,h⟩:=cI ((((a.setCell (Y (w.heap.size+1+1) 0) (I 0)).setCell (Y (w.heap.size+1+1) 1) (I 0)).setCell (Y (w.heap.size+1+1) 2) (I 0)).setCell (Y (w.heap.size+1+1+1) 0) (.bool false));have W:Q.cell? (Y (w.heap.size+1+1) 0)=some (I 0):=by rw[←h];simp[go_sem,r0]
  have Z:Q.cell? (Y (w.heap.size+1+1) 1)=some (I 0):=by rw[←h];simp[go_sem,r1]
  have d2:Q.cell? (Y (w.heap.size+1+1) 2)=some (I 0):=by rw[←h];simp[go_sem,r2]
  have d3:Q.cell? (Y (w.heap.size+1+1+1) 0)=some (.bool false):=by rw[←h];simp[go_sem,s0]
  rw[h]at H m ⊢;have l:=(bE.putObj (X:=λ_=>False) (.deferred none) m rfl).ck;have f0:=l _ _ W;have f1:=l _ _ Z;have f2:=l _ _ d2;have f3:=l _ _ d3;refine⟨sm,.inl ⟨_,_,rfl,rtd m,?_⟩⟩;refine⟨gX [],?_,by rw[L.out],H.trans (belowK_b (w:=w) (nlq _) _ D _ _ om m rfl rfl)⟩
  simp[results,Tryz.f158,go_sem,gX,f0,f1,f2,f3]
 case stop=>
  rintro D c g a hD hq ⟨rfl,y,rfl,t,W,Z,d2,d3⟩ v
  have z:Hid (∃r,(LF b x).map (·.1)=y.1::r):=by
   obtain⟨r,q⟩:=hq;exact⟨r.map (·.1),by rw[←q];rfl⟩
  gi_wp2;have l:=(bE.putObj (X:=λ_=>False) (.deferred none) v rfl).ck;have f0:=l _ _ W;have f1:=l _ _ Z;have f2:=l _ _ d2;have f3:=l _ _ d3;refine⟨sm,.inl ⟨_,_,rfl,rtd v,?_⟩⟩;obtain⟨r,q⟩:=z.out;refine⟨gX (y.1::r),?_,by rw[q],t.trans (belowK_b (w:=w) (nlq _) _ D _ _ om v rfl rfl)⟩
  simp[results,Tryz.f158,go_sem,gX,f0,f1,f2,f3]
end Go.Proofs.YtoolgmmljacfmaaGreatDoor
namespace Go.Proofs.YtoolgmmljacfmaaGreatDoor
variable {l m:List Yx}
theorem I4.all (h:I4 l m)(p:List Cx->Bool):(m.all λy=>p y.l)=l.all λy=>p y.l:=by
 have e:m.map Yx.l=l.map Yx.l:=List.ext_getElem (by simp[h.len]) (λi h1 a=>by simp only[List.getElem_map];exact h.like i (by simpa using a));have g:∀k:List Yx,(k.all λy=>p y.l)=(k.map Yx.l).all p:=λk=>by rw[List.all_map];rfl
 rw[g,g,e]
variable {nm:Ba}{t:List Bx}{l m:List Hx}{w n:List Yx}
theorem MC (h:aT l m):kC nm t m=kC nm t l:=by
 have e:∀k:List Hx,kC nm t k=(k.map λh=>(h.n,h.tl,h.nl)).all (λp=>!(tW nm p.1&&(dD t p.2.1||dD t p.2.2))):=λk=>by rw[List.all_map];rfl
 have g:(m.map λh=>(h.n,h.tl,h.nl))=l.map λh=>(h.n,h.tl,h.nl):=List.ext_getElem (by simp[h.len]) (λi h1 b=>by
  simp only[List.getElem_map];have a:=h.like i (by simpa using b);rw[a.n,a.t,a.x])
 rw[e,e,g]
theorem QI (h:I4 w n)(j:Nat):(D3 n j).l=(D3 w j).l:=by
 by_cases a:j<ln w;·rw[zU _ _ a,zU _ _ (by rw[h.len];exact a)];exact h.like j a
 ·unfold D3;rw[List.getElem?_eq_none (by rw[h.len];omega),List.getElem?_eq_none om]
theorem EZ (l:List Co):∃d i k f,gX l=.tuple #[gF d i k,.bool f]:=by
 cases l with
 |nil=>exact⟨0,0,0,false,rfl⟩
 |cons c r=>exact⟨c.d,c.i,c.k,true,rfl⟩
