import Derived.Test.YtoolgmmljacfmaaGreatDoorWv
import Derived.Test.YtoolgmmljacfmaaGreatDoorLeast
set_option maxRecDepth 100000
set_option maxHeartbeats 16000000
open List renaming length → ln
open Go.Proofs.Tryz Go.RowKit
namespace Go.Proofs.YtoolgmmljacfmaaGreatDoor
variable {b:Bk}{w:Wd}{x:Wx}
structure iX (w:World)(b:Bk):Prop where
 hf:Xs 3 Fx.cells w b.fa b.fl
 hnf:b.fl.length<=1048576
 hcap:b.fl.length<=b.fc
 hc2:b.fc<=9223372036854775807
 hs:∀f∈b.fl,f.n.size<=9223372036854775807
 hh:Xs 3 Hx.cells w b.ha b.hl
 hnh:b.hl.length<=1048576
 hgood:∀h∈b.hl,h.In w/\h.Fit
theorem iX.zL {w w':Wd}(h:iX w b)(a:aG w w'):iX w' b:=
 ⟨h.hf.zL a,h.hnf,h.hcap,h.hc2,h.hs,h.hh.zL a,h.hnh,λx hx=>⟨(h.hgood x hx).1.zL a,(h.hgood x hx).2⟩⟩
theorem iX.with {t:List Bx}{ta:Oa}(h:iX w b)(c:jG w ta t)(a:ln t<=1048576):rA w b t ta:=
 ⟨h.hf,h.hnf,h.hcap,h.hc2,h.hs,h.hh,h.hnh,h.hgood,c,a⟩
structure iL (w:World)(x:Wx):Prop where
 hi:x.In w
 hf:x.Fit
 hc:∀y∈x.wl,y.l.length<=y.c/\y.c<=9223372036854775807
theorem iL.zL {w w':Wd}(h:iL w x)(a:aG w w'):iL w' x:=⟨h.hi.zL a,h.hf,h.hc⟩
abbrev gF (late way lev:Int):Value:=.agg #[I late,I way,I lev]
abbrev jE (late way lev:Int):Obj:=.cells #[I late,I way,I lev] 79
def tK (b:Bk)(x:Wx)(late way lev:Int):Bool:=aQ b.fl (bL x way lev late)&&(fY b.now (bL x way lev late)&&kC x.n (bL x way lev late) b.hl)
theorem uQ (x:Wx)(c b a:Int):ln (bL x c b a)<=40:=by
 unfold bL;split;·rw[nM,eT];omega
 ·simp
theorem SZ (b:Bk)(x:Wx)(a d c:Int)(w:Wd)(D:iX w b)(hx:iL w x):
 aW 138 #[b.val,x.val,gF a d c] w λe w'=>e=rt (.bool (tK b x a d c))/\aG w w':=by
 have g:aG w (((w.alloc b.obj).alloc x.obj).alloc (jE a d c)):=aC (aC (aC (br _ _) _) _) _;have r:=(halq ((w.alloc b.obj).alloc x.obj) (jE a d c) w.heap.size so).trans ((halq (w.alloc b.obj) x.obj w.heap.size sm).trans (wnq w b.obj));have i:=wnq (w.alloc b.obj) x.obj;rw[wsa]at i;have u:=(halq ((w.alloc b.obj).alloc x.obj) (jE a d c) (w.heap.size+1) sm).trans i;clear i;obtain⟨T,q⟩:=cI (bL x d c a);have j:ln T<=1048576:=by rw[←q];have:=uQ x d c a;omega
 unfold tK;rw[q];have R:=aI q;clear q;obtain⟨U,y⟩:∃v,aQ b.fl T=v:=⟨_,rfl⟩;obtain⟨N,z⟩:∃v,fY b.now T=v:=⟨_,rfl⟩;obtain⟨v3,A⟩:∃v,kC x.n T b.hl=v:=⟨_,rfl⟩;rw[y,z,A];have O:Hid _:=y;have P:Hid _:=z;have Q:Hid _:=A;clear y z A;have G:=hx.hf;go_enter func138,ntmps138;go_wp2_with fail;obtain⟨W0,o⟩:=cI (((w.alloc b.obj).alloc x.obj).alloc (jE a d c));rw[o]at g r u ⊢;clear o;refine(cw.1 (oS 4 om x d c a W0 (hx.hi.zL g) G.wn G.ln G.yn)).mono ?_;rintro e w1 ⟨⟨v,rfl,C⟩,h⟩;rw[R.oQ]at C;obtain⟨ta,M,rfl,B⟩:=C.slice;have s:=btq h r;have K:=btq h u;have t:=aE g h;have S:w1.cell? (ya w 1)=some (fs b):=aB s rfl;have k:Hid _:=s;have l:Hid _:=K;clear r u s K g h C;go_wp2_with fail;refine(qJ b.fl T _ _ _ _ _ (D.hf.zL t) B D.hnf j).mono ?_;rintro e H ⟨rfl,f⟩;rw[O.out];have p:=aE t f;have m:=B.zL f;have J:=btq f k.oQ;have L:=btq f l.oQ;obtain⟨m0,m1,m2⟩:=aM J;have m3:H.cell? (Y (w.heap.size+1) 0)=some (.string x.n):=aB L rfl;clear k l t B f S J L;cases U with
 |false=>
  go_wp2;go_ret;exact⟨rfl,p⟩
 |true=>
 go_wp2_with fail;refine(uK T b.now N P.out ta M H m j).mono ?_;rintro e H ⟨rfl,rfl⟩;cases N with
 |false=>
  go_wp2;go_ret;exact⟨rfl,p⟩
 |true=>
 go_wp2_with fail;refine(uA b x.n T ta M _ ((D.zL p).with m j)).mono ?_;rintro e w3 ⟨rfl,F⟩;rw[Q.out];go_wp2;go_ret;exact⟨rfl,aE p F⟩
theorem BZ (a:Int)(t:List Bx)(ta:Oa)(u:Nat)(w:Wd)(s:jG w ta t)(r:1<=ln t)(hn0:0<=a)(hn1:a<=10000)(d:0<=(t[0]'om).i)(f:(t[0]'om).i<=10000):
 aW 287 #[I a,.slice ta (ln t) u] w λe w'=>e=rt (Sp.val ⟨0,a-(t[0]'om).i-1⟩)/\aG w w':=by
 rcases s with h|⟨l,off,rfl,k⟩;·subst h;simp at r
 have j:=k 0 om;obtain⟨c,b⟩:=cI (t[0]'om);rw[b]at j d f ⊢;clear b k;obtain⟨g,m,n,o,p,q⟩:=j;rw[Nat.zero_mul,naz]at g m n o p q;have hbl:l<w.heap.size:=aA g;have hl2:0<ln t:=om;go_enter func287,ntmps287;go_wp2;refine bpr (v:=Sp.val ⟨0,a-c.i-1⟩) ?_ rfl ⟨rfl,aC (br _ _) _⟩;simp[results,results287,go_sem]
variable {a:List Fx}{t:List Bx}{d w k:Int}
theorem KI (x:Wx)(a:List Cx)(b d:Int)(j:Nat):mL x a b d j=dK d (mL x a b 0 j):=by
 unfold mL dK;simp only[Bx.mk.injEq,true_and];constructor<;>omega
theorem vS (x:Wx)(i k d:Int)(a:0<=d)(b:d<=300):bL x i k d=dG d (bL x i k 0):=by
 have e:iN x d=iN x 0:=by
  unfold iN;have c:fQ d 0 300=true:=det ⟨a,b⟩;have f:fQ 0 0 300=true:=dz;rw[c,f]
 unfold bL;rw[e];split
 ·unfold qM dG;rw[List.map_map];exact List.map_congr_left λj _=>KI x _ _ d j
 ·rfl
theorem IX (x:Wx)(hx:0<=x.f)(b:0<=x.q)(i k:Int):∀c∈bL x i k 0,0<=c.i:=by
 unfold bL;split
 ·intro c a;obtain⟨j,_,rfl⟩:=lmm.1 a;have:0<=(j:Int)*x.q:=Int.mul_nonneg om b;show 0<=x.f+0+(j:Int)*x.q;omega
 ·intro c a;cases a
theorem IY (m:∀c∈t,0<=c.i)(hd:0<=d)(h:aQ a t=false):aQ a (dG d t)=false:=by
 rw[befq]at h ⊢;intro g;apply h;simp only[aQ,bat]at g ⊢;obtain⟨b,j,k,e⟩:=g;rw[dZ]at b;have hl:1<=ln t:=by simp only[oO,dte]at b;omega
 refine⟨b,?_,?_,?_⟩
 ·rw[lat];intro c f;have hc0:=m c f;have:=lat.1 j (dK d c) (lmm.2 ⟨c,f,rfl⟩);simp only[aK,dte]at this ⊢;simp only[dK]at this;omega
 ·refine(fO t).2 λi l=>?_;have:=(fO _).1 k i (by rw[dZ];exact l);rw[iQ,iQ]at this;simp only[dW,dte]at this ⊢;simp only[dK]at this;omega
 ·rw[l9 a (dG d t) (by rw[dZ];omega),iQ]at e;rw[l9 a t om];simp only[dZ]at e;exact e
theorem in_le (a:fJ t=true):∀(i:Nat) (h:i<ln t),(t[0]'om).i<=t[i].i
 |0,h=>ilr _
 |i+1,h=>by
  have h1:=in_le a i om;have b:=(fO t).1 a i h;simp only[dW,dte]at b;omega
theorem PQ (k:fJ t=true)(hl:1<=ln t):fY w (dG d t)=decide (¬d<=w-(t[0]'om).i-1):=by
 rw[beii,dte];unfold fY;rw[lat];constructor
 ·intro h;have e:decide (w<=(dK d (t[0]'om)).i)=true:=h (dK d (t[0]'om)) (lmm.2 ⟨_,lgm _,rfl⟩);have f:=of_decide_eq_true e;simp only[dK]at f;omega
 ·intro h c g;obtain⟨c',b,rfl⟩:=lmm.1 g;obtain⟨i,j,rfl⟩:=lgo b;have:=in_le k i j;show decide (w<=(dK d t[i]).i)=true;apply det;simp only[dK];omega
theorem NO {b:Bk}{x:Wx}{i k d:Int}(f:aO b=true)(a:0<=d)(c:d<=300)(e:aQ b.fl (bL x i k 0)=true)(j:1<=ln (bL x i k 0)):
 tK b x d i k=false↔(lF b x.n (bL x i k 0) d∨(0<=d/\d<=b.now-((bL x i k 0)[0]'om).i-1)):=by
 have l:fJ (bL x i k 0)=true:=by simp only[aQ,bat]at e;exact e.2.2.1
 unfold tK;rw[vS x i k d a c,PQ l j,zY f e a,EF];generalize aQ b.fl (dG d (bL x i k 0))=u,kC x.n (dG d (bL x i k 0)) b.hl=v;by_cases h:d<=b.now-((bL x i k 0)[0]'om).i-1
 ·rw[def0 (by simpa using h)];constructor;·intro _;exact .inr ⟨a,h⟩
  ·intro _;cases u<;>simp
 ·rw[det h];constructor;·intro g;left;simpa using g
  ·rintro(g|⟨_,g⟩);·simpa using g
   ·exact absurd g h
theorem LI (hx:0<=x.f)(e:0<=x.q)(a:0<=d)(c:d<=300)(g:aQ b.fl (bL x w k 0)=false):tK b x d w k=false:=by
 unfold tK;rw[vS x w k d a c,IY (IX x hx e w k) a g];rfl
end Go.Proofs.YtoolgmmljacfmaaGreatDoor
namespace Go.Proofs.YtoolgmmljacfmaaGreatDoor
open Go.Shelf
attribute [local go_sem] Oper.semAt_some
variable {a c:Int}{P:Int → Prop}{v:Va}{b:Bk}{x:Wx}{T:List Bx}{ta:Oa}{d z:Nat}
def qI (most:Int)(P:Int->Prop)(v:Value)(w:World):Prop:=∃ao cap l,v=.slice ao (List.length l) cap/\PB w ao l/\l.length<=20000/\∀d,0<=d->d<=most->(i8 l d↔P d)
theorem qI.zL {w w':Wd}(h:qI a P v w)(i:aG w w'):qI a P v w':=by
 obtain⟨c,b,l,d,e,f,g⟩:=h;exact⟨c,b,l,d,e.zL i,f,g⟩
theorem U8 (a:Int)(hmost:a<=300)(m:Sp)(P:Int->Prop)(v:Va)(w:Wd)(h:kS a P v w)(k:0<=m.lo)(n:m.hi<=10000):
 aW 171 #[v,m.val] w λe w'=>(∃r,e=rt r/\qI a (λd=>P d∨(m.lo<=d/\d<=m.hi)) r w')/\aG w w':=by
 obtain⟨t,i,l,rfl,y,j,z⟩:=h;refine(M6 10000 om l m t i w y ⟨j.c,λs o=>⟨(j.b s o).1,by have:=(j.b s o).2;omega⟩⟩ k n).mono ?_;rintro e w' ⟨⟨g,f,q,rfl,B,p,C⟩,A⟩;refine⟨⟨_,rfl,g,f,q,rfl,B,?_,λd u x=>by rw[C,z d u x]⟩,A⟩;have:=kV q 0 10000 p.c p.b;omega
def BPr (b:Bk)(x:Wx)(T:List Bx)(ta:Option Addr)(tc:Nat)(z:Nat)(i0:Int)(j:Nat)(v:Value)(w:World):Prop:=
 match j with
 |0=>v=b.val
 |1=>v=(E (z+1) 0)
 |2=>v=.string x.n
 |3=>v=.slice ta T.length tc
 |4=>v=(E (z+1) 5)
 |5=>v=I x.l
 |6=>kS x.l (lF b x.n T) v w
 |7=>v=(E z 0)
 |8=>v=I b.now
 |9=>v=.slice ta T.length tc
 |10=>v=Sp.val ⟨0,b.now-i0-1⟩
 |11=>qI x.l (λd=>lF b x.n T d∨(0<=d/\d<=b.now-i0-1)) v w
 |_=>True
theorem BPr.zL (j:Nat)(v:Va)(w w':Wd)(h:BPr b x T ta d z c j v w)(a:aG w w'):BPr b x T ta d z c j v w':=by
 unfold BPr at h ⊢;split
 all_goals first
  |exact h
  |exact kS.zL h a
  |exact qI.zL h a
  |trivial
theorem sp_row (W:Wd)(s:Sp)(t:Nat):Xs 2 Sp.cells (W.alloc (.cells #[I s.lo,I s.hi] t)) (some (Y W.heap.size 0)) [s]:=by
 refine .inr ⟨W.heap.size,0,rfl,λk b=>?_⟩;have:k=0:=by simpa using b
 subst this;intro j v a;match j,a with
 |0,a=>simp[Sp.cells]at a;subst a;simp
 |1,a=>simp[Sp.cells]at a;subst a;simp
theorem VP (n:Nat)(hn:4<=n)(b:Bk)(x:Wx)(i k:Int)(w:Wd)(hb:iX w b)(hx:iL w x)(S:aO b=true)(D:0<=b.now)(F:b.now<=10000)(zj:0<=x.l)(R:x.l<=300)(zk:0<=x.f)(zl:0<=x.q):
 CallsIn Fence.wide n Tryz.prog 278 #[b.val,x.val,gF 0 i k] w λe w'=>(∃v,e=rt v/\qI x.l (λd=>tK b x d i k=false) v w')/\aG w w':=by
 have h1n:1<=n:=om;have t:aG w (((w.alloc b.obj).alloc x.obj).alloc (jE 0 i k)):=aC (aC (aC (br _ _) _) _) _;have X:=(halq ((w.alloc b.obj).alloc x.obj) (jE 0 i k) w.heap.size so).trans ((halq (w.alloc b.obj) x.obj w.heap.size sm).trans (wnq w b.obj));have B:=wnq (w.alloc b.obj) x.obj;rw [wsa] at B;have X0:=(halq ((w.alloc b.obj).alloc x.obj) (jE 0 i k) (w.heap.size+1) sm).trans B;clear B;obtain ⟨T,C⟩:=cI (bL x i k 0);have O:ln T<=1048576:=by rw [←C];have:=uQ x i k 0;omega
 obtain ⟨v1,g1⟩:∃v,aQ b.fl T=v:=⟨_,rfl⟩;have V:=aI C;have G:=aI g1;clear C g1;refine cow Tryz.func278 rfl trivial ?_ rfl;simp only [Tryz.ntmps278,lsz,llc,lln,Nat.reduceAdd,Nat.reduceSub,ars,arz,lpt,lap,lna,lca];gi_wp2_with fail;refine ⟨trivial,?_⟩;obtain ⟨W0,Q⟩:=cI (((w.alloc b.obj).alloc x.obj).alloc (jE 0 i k));rw [Q] at t X X0 ⊢;clear Q;refine (cw.2 (sD x i k 0 W0 (hx.hi.zL t) hx.hc hx.hf.yn)).mono ?_;rintro e w1 ⟨⟨v,rfl,hO⟩,u⟩;rw [V.oQ] at hO;obtain ⟨ta,H,rfl,hB⟩:=hO.slice;have Z:=btq u X;have X1:=btq u X0;have N1:=aE t u;have k1:w1.cell? (ya w 1)=some (fs b):=aB Z rfl;have J:Hid _:=Z;have K:Hid _:=X1;clear X X0 Z X1 t u hO;gi_wp2_with fail;refine ⟨trivial,?_⟩;refine (cw.2 (pT b.fl T _ _ _ _ _ (hb.hf.zL N1) hB hb.hnf O)).mono ?_;rintro e w2 ⟨rfl,g⟩;rw [G.out];have N2:=aE N1 g;have M:=hB.zL g;have B2:=btq g J.oQ;have X2:=btq g K.oQ;obtain ⟨m0,m1,m2⟩:=aM B2;have m3:w2.cell? (Y (w.heap.size+1) 0)=some (.string x.n):=aB X2 rfl;have m4:w2.cell? (Y (w.heap.size+1) 5)=some (I x.l):=aB X2 rfl;clear J K N1 hB g k1 B2 X2;cases v1 with
 |false=>
  have zd:Hid (∀d,0<=d->d<=x.l->(i8 [⟨0,x.l⟩] d↔tK b x d i k=false)):=λd r z=>
   ⟨λ_=>LI zk zl r om (by rw [V.oQ];exact G.out),λ_=>⟨_,lms.2 rfl,r,z⟩⟩
  gi_wp2_with fail;refine ⟨trivial,?_⟩;refine (cw.2 (nN x.l w2)).mono ?_;rintro e W ⟨rfl,zh⟩;have N3:=aE N2 zh;have HR:PB (W.alloc (.cells #[I 0,I x.l] 175)) (some (ya W 0)) [⟨0,x.l⟩]:=⟨sp_row W ⟨0,x.l⟩ 175,.inr ⟨_,_,_,rfl,wnq W _⟩⟩;have ze:Hid _:=HR;clear HR;gi_wp2;go_ret;exact ⟨⟨_,rfl,_,_,[⟨0,x.l⟩],rfl,ze.oQ,sm,zd.oQ⟩,aC N3 _⟩
 |true=>
 have P:1<=ln T:=by
  have:=G.out;simp only [aQ,oO,bat,dte] at this;omega
 have zi:aK (T[0]'om)=true:=by
  have:=G.out;simp only [aQ,bat] at this;exact lat.1 this.2.1 _ (lgm _)
 have N:0<=(T[0]'om).i/\(T[0]'om).i<=10000:=by simp only [aK,dte] at zi;omega
 have zb:Hid (∀d,0<=d->d<=x.l->(tK b x d i k=false↔(lF b x.n T d∨(0<=d/\d<=b.now-(T[0]'om).i-1)))):=λd r z=>by
  have C:=V.oQ;have h:=NO (b:=b) (x:=x) (i:=i) (k:=k) (d:=d) S r om (by rw [C];exact G.out) (by rw [C];exact P);simp only [C] at h;exact h
 have za:Hid (aQ b.fl T=true):=G.out;clear V;gi_wp2_with fail
 refine j6 kr 12 rfl (λa=>{ tmps:=#[b.val,x.val,gF 0 i k,ea w 0,E (w.heap.size+1) 0,E (w.heap.size+1+1) 0,ms,.slice ta (ln T) H,.agg #[.string x.n,I x.q,I x.s,I x.f,I x.b,I x.l,.slice x.wa (ln x.wl) x.wc,.slice x.la (ln x.ll) x.lc],E (w.heap.size+1+1) 1,I i,E (w.heap.size+1+1) 2,I k,E (w.heap.size+1+1) 0,I 0,.slice ta (ln T) H,ea w 1,fs b,.slice ta (ln T) H,.bool true,.bool false,undef,undef,undef,undef,a 0,a 1,a 2,a 3,a 4,a 5,a 6,a 7,a 8,a 9,a 10,a 11],defers:=[] }) (λ_=>undef)
  (BPr b x T ta H w.heap.size (T[0]'om).i) BPr.zL (GN kr) (zQ kr) ?step ?fin
 case step=>
  intro j o a w' hj y c p;have n0:=ctq c m0;have n1:=ctq c m1;have n2:=ctq c m2;have n3:=ctq c m3;have n4:=ctq c m4;have zg:=aE N2 c;match j,hj with
  |0,_|1,_|3,_|4,_|7,_|9,_=>
   cases y;gi_wp2;exact ⟨_,uhx,rfl,br _ _⟩
  |2,_=>
   cases y;have z:a 1=_:=Zq p 1;rw [z];gi_wp2;exact ⟨_,by simp [aH,z],rfl,br _ _⟩
  |5,_=>
   cases y;have d4:a 4=_:=Zq p 4;rw [d4];gi_wp2;exact ⟨_,by simp [aH,d4],rfl,br _ _⟩
  |6,_=>
   cases y;have r:a 0=_:=Zq p 0;have d2:a 2=_:=Zq p 2;have d3:a 3=_:=Zq p 3;have d5:a 5=_:=Zq p 5;rw [r,d2,d3,d5];gi_wp2_with fail;refine ⟨trivial,?_⟩;refine (cw.2 (tX b x.n T ta H x.l zj R w' ((hb.zL zg).with (M.zL c) O) S za.out)).mono ?_;rintro e w4 ⟨⟨v,rfl,U⟩,m⟩;have A:Hid _:=U;clear U;gi_wp2;exact ⟨_,by simp [aH,r,d2,d3,d5],A.oQ,m⟩
  |8,_=>
   cases y;have d7:a 7=_:=Zq p 7;rw [d7];gi_wp2;exact ⟨_,by simp [aH,d7],rfl,br _ _⟩
  |10,_=>
   cases y;have d8:a 8=_:=Zq p 8;have d9:a 9=_:=Zq p 9;rw [d8,d9];gi_wp2_with fail;refine ⟨trivial,?_⟩;refine (cw.2 (BZ b.now T ta H w' (M.zL c) P D F N.1 N.2)).mono ?_;rintro e w4 ⟨rfl,m⟩;gi_wp2;exact ⟨_,by simp [aH,d8,d9],rfl,m⟩
  |11,_=>
   cases y;have d6:kS x.l (lF b x.n T) (a 6) w':=Zq p 6;have L:a 10=_:=Zq p 10;have zc:Hid _:=d6;clear d6;rw [L];gi_wp2_with fail;refine ⟨trivial,?_⟩;refine (cw.2 (U8 x.l R ⟨0,b.now-(T[0]'om).i-1⟩ _ (a 6) w' zc.oQ (ilr _) (by show b.now-_-1<=10000;omega))).mono ?_;rintro e w4 ⟨⟨v,rfl,U⟩,m⟩;have A:Hid _:=U;clear U;gi_wp2;exact ⟨_,by simp [aH,L],A.oQ,m⟩
  |j+12,h=>omega
 case fin=>
  intro o a w' y c hp;cases y;have HF:Hid (qI x.l (λd=>lF b x.n T d∨(0<=d/\d<=b.now-(T[0]'om).i-1)) (a 11) w'):=hp 11 dz;clear hp;gi_wp2;go_ret;obtain ⟨ao,zf,l,e,hX,hl,hm⟩:=HF.oQ;exact ⟨⟨_,rfl,ao,zf,l,e,hX,hl,λd r z=>(hm d r z).trans (zb.oQ d r z).symm⟩,aE N2 c⟩
end Go.Proofs.YtoolgmmljacfmaaGreatDoor
namespace Go.Proofs.YtoolgmmljacfmaaGreatDoor
open Go.Shelf
theorem DQ (x:Wx)(w:Wd):
 aW 256 #[x.val] w λe w'=>e=rt (.func (.func 279) #[] #[E w.heap.size 0])/\aG w w'/\w'.heap[w.heap.size]?=some x.obj:=by
 have H:Hid (aG w (w.alloc x.obj)/\(w.alloc x.obj).heap[w.heap.size]?=some x.obj):=⟨aC (br _ _) _,wnq w x.obj⟩;go_enter Tryz.func256,Tryz.ntmps256;go_wp2;go_ret;exact⟨rfl,H.oQ⟩
theorem zI (b:Bk)(x:Wx)(w:Wd):
 aW 213 #[b.val,x.val] w λe w'=>e=rt (.func (.func 254) #[] #[E w.heap.size 0,E (w.heap.size+1) 0])/\aG w w'/\w'.heap[w.heap.size]?=some b.obj/\w'.heap[w.heap.size+1]?=some x.obj:=by
 have a:=wnq (w.alloc b.obj) x.obj;rw[wsa]at a
 have H:Hid (aG w ((w.alloc b.obj).alloc x.obj)/\((w.alloc b.obj).alloc x.obj).heap[w.heap.size]?=some b.obj/\((w.alloc b.obj).alloc x.obj).heap[w.heap.size+1]?=some x.obj):=
  ⟨aC (aC (br _ _) _) _,(halq _ _ _ sm).trans (wnq w b.obj),a⟩
 clear a;go_enter Tryz.func213,Tryz.ntmps213;go_wp2;go_ret;exact⟨rfl,H.oQ⟩
end Go.Proofs.YtoolgmmljacfmaaGreatDoor
namespace Go.Proofs.YtoolgmmljacfmaaGreatDoor
variable {w:Wd}{p:Nat}{v:Va}{b:Bk}{x:Wx}{d i:Int}{a:List Fx}
theorem Tryz.info79:(Tryz.prog.info? 79).map (λi=>(i.zero,i.size,i.bytes))=some (some (.agg #[I 0,I 0,I 0]),3,24):=kr
structure Co where
 d:Int
 i:Int
 k:Int
def Co.cells (c:Co):List Value:=[I c.d,I c.i,I c.k]
abbrev Co.val (c:Co):Value:=gF c.d c.i c.k
abbrev Co.obj (c:Co):Obj:=jE c.d c.i c.k
def lJ:List Co->List Value
 |[]=>[]
 |s::r=>s.cells++lJ r
theorem vK:∀(l r:List Co),lJ (l++r)=lJ l++lJ r
 |[],r=>rfl
 |a::l,r=>by simp[lJ,vK l r]
theorem EV:∀(l:List Co) (i:Nat) (h:i<ln l) (j:Nat),j<3->(lJ l)[i*3+j]?=(l[i].cells)[j]?
 |[],i,h,j,hj=>by simp at h
 |a::r,0,h,j,hj=>by
  rw[lJ,lgl (by simp[Co.cells];omega)];simp
 |a::r,i+1,h,j,hj=>by
  have h':i<ln r:=by simpa using h
  rw[lJ,lgr (by simp[Co.cells];omega)];have e:(i+1)*3+j-ln (Co.cells a)=i*3+j:=by simp[Co.cells];omega
  rw[e,EV r i h' j hj];rfl
theorem ZG {l:List Co} (h:w.ownsRow p 79 3 v (ln l) (lJ l)):∃e a,v=.slice e (ln l) a/\Xs 3 Co.cells w e l/\(ln l)<=a:=by
 rcases h.2 with⟨b,i⟩|⟨g,a,cur,b,hb,hg,d,_,n,ht⟩;·exact⟨none,0,by rw[b,i],Or.inl (enl i),om⟩
 ·refine⟨some (Y g 0),a,b,Or.inr ⟨g,0,rfl,λk m j u f=>?_⟩,d⟩;have c:j<3:=(lgs.1 f).1;have:=h.cells (g:=g) (by rw[b];rfl) (k*3+j) u (by rw[EV l k m j c];exact f);rw[aal,nza]at this;rw[nza];exact this
theorem co_new (W:Wd)(g:Nat)(b:g=W.heap.size)(s:Co):∀j u,(s.cells)[j]?=some u->(W.alloc s.obj).cell? (((Y g 0):Addr).add j)=some u:=by
 subst b;intro j u a;match j,a with
 |0,a=>simp[Co.cells]at a;subst a;simp[Addr.add]
 |1,a=>simp[Co.cells]at a;subst a;simp[Addr.add]
 |2,a=>simp[Co.cells]at a;subst a;simp[Addr.add]
 |n+3,a=>simp[Co.cells]at a
def lM (b:Bk)(x:Wx)(d i:Int)(k:Nat):List Co:=((List.range k).filter λ(j:Nat)=>tK b x d i (j:Int)).map λ(j:Nat)=>⟨d,i,(j:Int)⟩
def mS (b:Bk)(x:Wx)(d:Int)(i:Nat):List Co:=(List.range i).flatMap λ(j:Nat)=>lM b x d (j:Int) x.ll.length
def gV (b:Bk)(x:Wx)(n:Nat):List Co:=(List.range n).flatMap λ(j:Nat)=>mS b x (j:Int) x.wl.length
def tH (b:Bk)(x:Wx):List Co:=if aO b&&eR b.fl x then gV b x (x.l.toNat+1)else[]
theorem MD (h:tK b x d i (p:Int)=true):lM b x d i (p+1)=lM b x d i p++[⟨d,i,(p:Int)⟩]:=by
 unfold lM;rw[List.range_succ,lfa,lmp];simp[h]
theorem QY (h:tK b x d i (p:Int)=false):lM b x d i (p+1)=lM b x d i p:=by
 unfold lM;rw[List.range_succ,lfa,lmp];simp[h]
theorem xL (b:Bk)(x:Wx)(d:Int)(i:Nat):mS b x d (i+1)=mS b x d i++lM b x d (i:Int) (ln x.ll):=by
 unfold mS;rw[List.range_succ,lfm];simp
theorem uG (b:Bk)(x:Wx)(n:Nat):gV b x (n+1)=gV b x n++mS b x (n:Int) (ln x.wl):=by
 unfold gV;rw[List.range_succ,lfm];simp
theorem yM (b:Bk)(x:Wx)(d i:Int)(k:Nat):ln (lM b x d i k)<=k:=by
 unfold lM;rw[List.length_map];exact nlt (List.length_filter_le _ _) sm
theorem rQ (b:Bk)(x:Wx)(h:ln x.ll<=6)(d:Int):∀i,ln (mS b x d i)<=6*i
 |0=>by simp[mS]
 |i+1=>by
  have:=rQ b x h d i;have:=yM b x d (i:Int) (ln x.ll);rw[xL,lla];omega
theorem wH (b:Bk)(x:Wx)(h:ln x.ll<=6)(a:ln x.wl<=3):∀n,ln (gV b x n)<=18*n
 |0=>by simp[gV]
 |n+1=>by
  have:=wH b x h a n;have:=rQ b x h (n:Int) (ln x.wl);rw[uG,lla];omega
theorem CL (h:eR a x=true):ln x.wl<=3/\(ln x.ll)<=6/\0<=x.l/\x.l<=300:=by
 simp only[eR,n6,jD,tR,pK,GJ,bat,dte]at h;omega
theorem pX (h:iX w b)(v:Bool)(a:aO b=v):aW 26 #[b.val] w λe w'=>e=rt (.bool v)/\aG w w':=
 vZ (h.with (t:=[]) (ta:=none) (.inl rfl) sm) v a
theorem zE (b:Bk)(x:Wx)(w:Wd)(X:iX w b)(hx:iL w x):
 aW 104 #[b.val,x.val] w λe w'=>(∃v,e=rt v/\w'.ownsRow (w.heap.size+2) 79 3 v (ln (tH b x)) (lJ (tH b x)))/\aG w w':=by
 obtain⟨i0,zj,zp,zq,zr⟩:=info_parts Tryz.info79;have H:aG w (((w.alloc b.obj).alloc x.obj).alloc (.cells #[] 79)):=aC (aC (aC (br _ _) _) _) _;have B0:=(halq ((w.alloc b.obj).alloc x.obj) (.cells #[] 79) w.heap.size so).trans ((halq (w.alloc b.obj) x.obj w.heap.size sm).trans (wnq w b.obj));have L:=wnq (w.alloc b.obj) x.obj;rw[wsa]at L;have X0:=(halq ((w.alloc b.obj).alloc x.obj) (.cells #[] 79) (w.heap.size+1) sm).trans L;clear L
 have j:(((w.alloc b.obj).alloc x.obj).alloc (.cells #[] 79)).ownsRow (w.heap.size+2) 79 3 (sl (w.heap.size+1+1) 0 0 0) 0 (lJ []):=by
  simpa[lJ]using World.ownsRow_lit (base:=w.heap.size+2) (e:=79) (size:=3) ((w.alloc b.obj).alloc x.obj) #[] 0 sm (nz _) rfl
 have C:(((w.alloc b.obj).alloc x.obj).alloc (.cells #[] 79)).heap.size=w.heap.size+3:=by simp
 obtain⟨v1,g1⟩:∃v,aO b=v:=⟨_,rfl⟩;obtain⟨v2,g2⟩:∃v,eR b.fl x=v:=⟨_,rfl⟩;obtain⟨T,hT⟩:=bQ (tH b x);rw[←hT];have HT:Hid (T=if v1&&v2 then gV b x (x.l.toNat+1)else[]):=by rw[Hid,hT,tH,g1,g2]
 have G1:Hid _:=g1;have G2:Hid _:=g2;clear hT g1 g2
 go_enter Tryz.func104,Tryz.ntmps104
 go_wp2_with fail
 obtain⟨W0,W⟩:=cI (((w.alloc b.obj).alloc x.obj).alloc (.cells #[] 79));rw[W]at H B0 X0 j C ⊢;clear W;refine(pX (X.zL H) v1 G1.out).mono ?_;rintro e w1 ⟨rfl,t⟩;have B1:=btq t B0;have X1:=btq t X0;have V:=aE H t;have o:=dC j t;have za:=t.size;rw[C]at za;clear j t B0 X0 H C
 cases v1 with
 |false=>
  go_wp2
  go_ret;exact⟨⟨_,rfl,by rw[HT.oQ];exact o⟩,V⟩
 |true=>
 have k1:w1.cell? (ya w 1)=some (fs b):=aB B1 rfl;obtain⟨q0,q1,q2,q3,q4,q5,q6,q7⟩:=gT X1;have Q:Hid _:=B1;have U:Hid _:=X1;clear B1 X1;go_wp2_with fail
 refine(wN b.fl x b.fa b.fc w1 (X.hf.zL V) X.hnf X.hs (hx.hi.zL V) hx.hf).mono ?_;rintro e N ⟨rfl,y⟩;rw[G2.out];have O:=btq y Q.oQ;have r:=btq y U.oQ;have N2:=aE V y;have p:=dC o y;have zb:=y.size;have zb:w.heap.size+3<=N.heap.size:=om
 clear o y Q U V k1 q0 q1 q2 q3 q4 q5 q6 q7 za
 cases v2 with
 |false=>
  go_wp2
  go_ret;exact⟨⟨_,rfl,by rw[HT.oQ];exact p⟩,N2⟩
 |true=>
 obtain⟨zn,Z,hl0,hl1⟩:=CL G2.out;have D:Hid (N.heap[w.heap.size]?=some b.obj/\N.heap[w.heap.size+1]?=some x.obj):=⟨O,r⟩;clear O r G1 G2;have zf:Hid (T=gV b x (x.l.toNat+1)):=by rw[Hid,HT.oQ];rfl
 clear HT;go_wp2
 go_loopw [5,6] (λv5 i wr=>∃n:Nat,(n:Int)<=x.l+1/\i=I n/\wr.ownsRow (w.heap.size+2) 79 3 v5 (ln (gV b x n)) (lJ (gV b x n))/\Below (w.heap.size+2) N wr) (λ_ i _=>(x.l+1-intOf i).toNat)
 case atStart=>exact⟨0,om,rfl,p,br _ _⟩
 case round=>
  clear p;obtain⟨n,hn,rfl,a,d⟩:=hrel;have K:aG w wr:=N2.trans (d.mono om);have r:wr.heap[w.heap.size+1]?=some x.obj:=(d.block _ om).trans D.oQ.2;have q5:wr.cell? (Y (w.heap.size+1) 5)=some (I x.l):=aB r rfl;have zd:=aI (wH b x Z zn n);clear r
  by_cases hlt:(n:Int)<=x.l
  ·go_wp2
   clear q5
   go_loopw [5,7] (λv5 i ws=>∃m:Nat,m<=ln x.wl/\i=I m/\ws.ownsRow (w.heap.size+2) 79 3 v5 (ln (gV b x n++mS b x n m)) (lJ (gV b x n++mS b x n m))/\Below (w.heap.size+2) N ws) (λ_ i _=>ln x.wl-(intOf i).toNat)
   case atStart=>exact⟨0,om,rfl,by simpa[mS]using a,d⟩
   case round=>
    clear a d K;obtain⟨m,hm,rfl,a,d⟩:=hrel;have K:aG w wr:=N2.trans (d.mono om);have r:wr.heap[w.heap.size+1]?=some x.obj:=(d.block _ om).trans D.oQ.2;have q6:wr.cell? (Y (w.heap.size+1) 6)=some (.slice x.wa (ln x.wl) x.wc):=aB r rfl;have zg:=aI (rQ b x Z n m);clear r
    by_cases hmt:m<ln x.wl
    ·go_wp2
     clear q6
     go_loopw [5,8] (λv5 i ws=>∃k:Nat,k<=ln x.ll/\i=I k/\ws.ownsRow (w.heap.size+2) 79 3 v5 (ln (gV b x n++mS b x n m++lM b x n m k)) (lJ (gV b x n++mS b x n m++lM b x n m k))/\Below (w.heap.size+2) N ws) (λ_ i _=>ln x.ll-(intOf i).toNat)
     case atStart=>exact⟨0,om,rfl,by simpa[lM]using a,d⟩
     case round=>
      clear a d K;obtain⟨k,hk,rfl,a,d⟩:=hrel;have K:aG w wr:=N2.trans (d.mono om);have O:wr.heap[w.heap.size]?=some b.obj:=(d.block _ om).trans D.oQ.1;have r:wr.heap[w.heap.size+1]?=some x.obj:=(d.block _ om).trans D.oQ.2;have q7:wr.cell? (Y (w.heap.size+1) 7)=some (.slice x.la (ln x.ll) x.lc):=aB r rfl;have hwz:w.heap.size+3<=wr.heap.size:=nlt zb d.size;have zc:=aI (yM b x n m k)
      by_cases hkt:k<ln x.ll
      ·have g:aG wr (wr.alloc (jE n m k)):=aC (br _ _) _
       have B3:=(g.block _ om).trans O;have F:=(g.block _ om).trans r;have P:=wnq wr (jE n m k);have p0:(wr.alloc (jE n m k)).cell? (ya w 0)=some (I b.now):=aB B3 rfl;have p1:(wr.alloc (jE n m k)).cell? (ya w 1)=some (fs b):=aB B3 rfl;have p2:(wr.alloc (jE n m k)).cell? (ya w 2)=some (hs b):=aB B3 rfl;have q0:(wr.alloc (jE n m k)).cell? (Y (w.heap.size+1) 0)=some (.string x.n):=aB F rfl;have q1:(wr.alloc (jE n m k)).cell? (Y (w.heap.size+1) 1)=some (I x.q):=aB F rfl;have q2:(wr.alloc (jE n m k)).cell? (Y (w.heap.size+1) 2)=some (I x.s):=aB F rfl;have q3:(wr.alloc (jE n m k)).cell? (Y (w.heap.size+1) 3)=some (I x.f):=aB F rfl;have q4:(wr.alloc (jE n m k)).cell? (Y (w.heap.size+1) 4)=some (I x.b):=aB F rfl;have q5:(wr.alloc (jE n m k)).cell? (Y (w.heap.size+1) 5)=some (I x.l):=aB F rfl;have q6:(wr.alloc (jE n m k)).cell? (Y (w.heap.size+1) 6)=some (.slice x.wa (ln x.wl) x.wc):=aB F rfl;have q8:(wr.alloc (jE n m k)).cell? (Y (w.heap.size+1) 7)=some (.slice x.la (ln x.ll) x.lc):=aB F rfl;have r0:(wr.alloc (jE n m k)).cell? (ya wr 0)=some (I n):=aB P rfl;have r1:(wr.alloc (jE n m k)).cell? (ya wr 1)=some (I m):=aB P rfl;have r2:(wr.alloc (jE n m k)).cell? (ya wr 2)=some (I k):=aB P rfl;have R:Hid _:=P;clear r O F B3 P;obtain⟨cv,M⟩:∃v,tK b x n m k=v:=⟨_,rfl⟩;have S:Hid _:=M;go_wp2_with fail
       refine(SZ b x n m k _ (X.zL (aE K g)) (hx.zL (aE K g))).mono ?_;rintro e w3 ⟨rfl,J⟩;rw[M];have c:=dC (dC a g) J;have G:=bI (bI d om g) om J;have C4:=btq J R.oQ;obtain⟨r0,r1,r2⟩:=aM C4;clear M a d K g p0 p1 p2 q0 q1 q2 q3 q4 q5 q6 q7 q8 J C4 R;have h3z:=G.size
       have hLen:ln (gV b x n++mS b x n m++lM b x n m k)<=10000:=by
        have h1:=zd.oQ;have h2:=zg.oQ;have h3:=zc.oQ;simp only[lla];omega
       cases cv with
       |false=>
        go_wp2
        go_roundw
        case rel=>exact⟨k+1,om,gn,by rw[QY S.oQ];exact c,G⟩
        case measure=>simp[intOf];omega
       |true=>
        go_wp2_with (at_builtin;refine wpList_append_own_at _ rfl (.tmp 50) (.tmp 52) 149 rfl (w.heap.size+2) 79 i0 _ 3 24 Tryz.underlying149 zj zp zq zr rfl dz _ _ _ rfl (c.alloc _) (ya w3 0) 1 1 (Co.cells ⟨n,m,k⟩) rfl rfl ?qc1 ?qc2 ?qc3 ?qc4 ?qc5 ?_)
        case qc1=>first|exact λ_ _ h=>h|exact co_new _ _ rfl ⟨n,m,k⟩
        case qc2=>intro u hu;simp[Co.cells]at hu;rcases hu with rfl|rfl|rfl<;>rfl
        case qc3=>unfold maxLen;omega
        case qc4=>omega
        case qc5=>simp;omega
        intro v' w4 A z _ zi
        have B:w4.ownsRow (w.heap.size+2) 79 3 v' (ln (gV b x n++mS b x n m++lM b x n m (k+1))) (lJ (gV b x n++mS b x n m++lM b x n m (k+1))):=by
         rw[MD S.oQ,←las,vK,lla];simpa[lJ]using A
        have zh:Below (w.heap.size+2) N w4:=kL (mG G om _) om z (λk e=>(c.lt k e).1);have ze:Hid _:=B;clear z A zi c G B;go_wp2
        go_roundw
        case rel=>exact⟨k+1,om,gn,ze.oQ,zh⟩
        case measure=>simp[intOf];omega
      ·have zk:k=ln x.ll:=om
       subst zk;clear r O;go_wp2
       go_roundw
       case rel=>exact⟨m+1,om,gn,by rw[xL,←las];exact a,d⟩
       case measure=>simp[intOf];omega
    ·have zl:m=ln x.wl:=om
     subst zl;go_wp2
     go_roundw
     case rel=>exact⟨n+1,om,gn,by rw[uG];exact a,d⟩
     case measure=>simp[intOf];omega
  ·have zm:n=x.l.toNat+1:=om
   have HO:Hid (wr.ownsRow (w.heap.size+2) 79 3 u5 (ln T) (lJ T)):=by rw[Hid,zf.oQ,←zm];exact a
   clear a;go_wp2
   go_ret;exact⟨⟨_,rfl,HO.oQ⟩,K⟩
variable {b a:Nat}{c:Co}
def gX:List Co->Value
 |[]=>.tuple #[gF 0 0 0,.bool false]
 |c::_=>.tuple #[gF c.d c.i c.k,.bool true]
theorem co_at (h:bC w b a c.cells):w.cell? (Y b a)=some (I c.d)/\w.cell? (Y b (a+1))=some (I c.i)/\w.cell? (Y b (a+2))=some (I c.k):=
 ⟨h 0 _ rfl,h 1 _ rfl,h 2 _ rfl⟩
theorem GV (b:Bk)(x:Wx)(w:Wd)(C:iX w b)(hx:iL w x):
 aW 63 #[b.val,x.val] w λe w'=>e=rt (gX (tH b x))/\aG w w':=by
 have d:aG w (((w.alloc b.obj).alloc x.obj).alloc (jE 0 0 0)):=aC (aC (aC (br _ _) _) _) _;have f:=wnq ((w.alloc b.obj).alloc x.obj) (jE 0 0 0);rw[wsa,wsa]at f;obtain⟨L,k⟩:=cI (tH b x);rw[k];have u:Hid _:=k;clear k;go_enter Tryz.func63,Tryz.ntmps63;go_wp2_with fail;obtain⟨W0,j⟩:=cI (((w.alloc b.obj).alloc x.obj).alloc (jE 0 0 0));rw[j]at d f ⊢;clear j;refine(zE b x W0 (C.zL d) (hx.zL d)).mono ?_;rintro e w1 ⟨⟨v,rfl,l⟩,g⟩;rw[u.oQ]at l;have m:=aE d g;have n:=btq g f;obtain⟨ao,cap,rfl,B,_⟩:=ZG l;clear l g f d;obtain⟨q,s,t⟩:=aM n;have a:w.heap.size<=w.heap.size+1+1:=om;have rf:=jS n;cases L with
 |nil=>
  simp only[lln];go_wp2;refine bpr (v:=gX []) ?_ rfl ⟨rfl,((m.setCell (p:=(Y (w.heap.size+1+1) 0)) a _).setCell (p:=(Y (w.heap.size+1+1) 1)) a _).setCell (p:=(Y (w.heap.size+1+1) 2)) a _⟩;simp[results,Tryz.results63,go_sem,gX,q,s,t]
 |cons c r=>
  rcases B with h|⟨bl,off,rfl,o⟩;·cases h
  have i:=o 0 sm;rw[Nat.zero_mul,naz]at i;obtain⟨y,z,A⟩:=co_at i;simp only[List.getElem_cons_zero]at y z A;clear o i;simp only[llc];go_wp2;refine bpr (v:=gX (c::r)) ?_ rfl ⟨rfl,((m.setCell (p:=(Y (w.heap.size+1+1) 0)) a _).setCell (p:=(Y (w.heap.size+1+1) 1)) a _).setCell (p:=(Y (w.heap.size+1+1) 2)) a _⟩;simp[results,Tryz.results63,go_sem,gX,q,s,t]
end Go.Proofs.YtoolgmmljacfmaaGreatDoor
namespace Go.Proofs.YtoolgmmljacfmaaGreatDoor
open Go.Shelf
attribute [local go_sem] Oper.semAt_some
variable {L d k m a n i:Nat}
abbrev CoB (L:Nat):={ c:Co//0<=c.d/\c.d<=(L:Int)}
def L6 (L d i k:Nat):CoB L:=⟨⟨((min d L:Nat):Int),(i:Int),(k:Int)⟩,by constructor<;>simp only<;>omega⟩
theorem zW (i k:Nat)(h:d<=L):(L6 L d i k).1=⟨(d:Int),(i:Int),(k:Int)⟩:=by
 simp only[L6,Nat.min_eq_left h]
def x8 (L d i k:Nat):List (CoB L):=(List.range k).map (L6 L d i)
def xS (L ln d i:Nat):List (CoB L):=(List.range i).flatMap λj=>x8 L d j ln
def kX (L wn ln n:Nat):List (CoB L):=(List.range n).flatMap λj=>xS L ln j wn
theorem sR (L d i k:Nat):x8 L d i (k+1)=x8 L d i k++[L6 L d i k]:=by
 unfold x8;rw[List.range_succ,lmp];rfl
theorem sN (L a d i:Nat):xS L a d (i+1)=xS L a d i++x8 L d i a:=by
 unfold xS;rw[List.range_succ,lfm];simp
theorem pN (L b a n:Nat):kX L b a (n+1)=kX L b a n++xS L a n b:=by
 unfold kX;rw[List.range_succ,lfm];simp
theorem WK (L d i:Nat)(h:k<=m):x8 L d i k<+:x8 L d i m:=by
 induction m with
 |zero=>rw[Nat.le_zero.1 h];exact List.prefix_refl _
 |succ m ih=>
  by_cases e:k=m+1;·rw[e];exact List.prefix_refl _
  ·rw[sR];exact(ih om).trans (List.prefix_append _ _)
theorem YW (L a d:Nat)(h:k<=m):xS L a d k<+:xS L a d m:=by
 induction m with
 |zero=>rw[Nat.le_zero.1 h];exact List.prefix_refl _
 |succ m ih=>
  by_cases e:k=m+1;·rw[e];exact List.prefix_refl _
  ·rw[sN];exact(ih om).trans (List.prefix_append _ _)
theorem SK (L b a:Nat)(h:k<=m):kX L b a k<+:kX L b a m:=by
 induction m with
 |zero=>rw[Nat.le_zero.1 h];exact List.prefix_refl _
 |succ m ih=>
  by_cases e:k=m+1;·rw[e];exact List.prefix_refl _
  ·rw[pN];exact(ih om).trans (List.prefix_append _ _)
theorem at_pre (c:d<n)(e:i<m)(f:k<=a):kX L m a d++xS L a d i++x8 L d i k<+:kX L m a n:=by
 refine List.IsPrefix.trans ?_ (SK L m a (Nat.succ_le_of_lt c));rw[pN,las];refine(List.prefix_append_right_inj _).2 ?_;refine List.IsPrefix.trans ?_ (YW L a d (Nat.succ_le_of_lt e));rw[sN];exact(List.prefix_append_right_inj _).2 (WK L d i f)
theorem CC (n:Nat)(Bx L:Nat)(x:Wx)(N:x.l=(L:Int))(hL2:L<=300)(K:x.Fit)(R:Wd->Wd->Prop)(O:∀W F,R W F->W.heap[Bx]?=some x.obj->F.heap[Bx]?=some x.obj)(w:Wd)(M:w.heap[Bx]?=some x.obj):
 SeqStopsK Fence.wide n Tryz.prog 279 #[E Bx 0] (λc:CoB L=>#[c.1.val]) R (λU=>U=kX L (ln x.wl) (ln x.ll) (L+1)) (λD=>D<+:kX L (ln x.wl) (ln x.ll) (L+1)) (ln (kX L (ln x.wl) (ln x.ll) (L+1))) w:=λlp J Jx W P hJ _ H G=>by
 have g:W.heap[Bx]?=some x.obj:=btq P M;have Q:W.cell? (Y Bx 5)=some (I (L:Int)):=by rw[←N];exact aB g rfl
 have hwn:=K.wn;have hln:=K.ln;refine cow Tryz.func279 rfl trivial ?_ rfl;simp only[Tryz.ntmps279,lsz,llc,lln,Nat.reduceAdd,Nat.reduceSub,ars,arz,lpt,lap,lna,lca];gi_wp2;clear Q;gi_loopw [9] (λi wr=>∃d:Nat,d<=L+1/\i=I d/\J (kX L (ln x.wl) (ln x.ll) d) wr/\wr.heap[Bx]?=some x.obj) (λi _=>L+1-(intOf i).toNat);case atStart=>exact⟨0,nz _,rfl,G,g⟩
 case round=>
  clear g G;obtain⟨d,hd,rfl,a,b⟩:=hrel;by_cases A:d<L+1
  ·have S:wr.cell? (Y Bx 6)=some (.slice x.wa (ln x.wl) x.wc):=aB b rfl;have q:(d:Int)<(L:Int)+1:=om;gi_wp2;clear S;gi_loopw [15] (λi s=>∃m:Nat,m<=ln x.wl/\i=I m/\J (kX L (ln x.wl) (ln x.ll) d++xS L (ln x.ll) d m) s/\s.heap[Bx]?=some x.obj) (λi _=>ln x.wl-(intOf i).toNat);case atStart=>exact⟨0,nz _,rfl,by simpa[xS]using a,b⟩
   case round=>
    clear a b;obtain⟨m,hm,rfl,a,b⟩:=hrel;by_cases B:m<ln x.wl
    ·have T:wr.cell? (Y Bx 7)=some (.slice x.la (ln x.ll) x.lc):=aB b rfl;gi_wp2;clear T;gi_loopw [21] (λi s=>∃k:Nat,k<=ln x.ll/\i=I k/\J (kX L (ln x.wl) (ln x.ll) d++xS L (ln x.ll) d m++x8 L d m k) s/\s.heap[Bx]?=some x.obj) (λi _=>ln x.ll-(intOf i).toNat);case atStart=>exact⟨0,nz _,rfl,by simpa[x8]using a,b⟩
     case round=>
      clear a b;obtain⟨k,hk,rfl,a,b⟩:=hrel;by_cases z:k<ln x.ll
      ·have f:kX L (ln x.wl) (ln x.ll) d++xS L (ln x.ll) d m++x8 L d m k++[L6 L d m k]<+:kX L (ln x.wl) (ln x.ll) (L+1):=by
        rw[las _ (x8 L d m k),←sR];exact at_pre A B z
       obtain⟨fn,tmps,assign,body,C,o⟩:=H _ (L6 L d m k) wr a (by have:=f.length_le;simp only[lla,llc,lln]at this ⊢;omega);rw[zW m k om]at C;have t:=o;have HP:Hid _:=f;clear o H a f;gi_wp2_with fail;refine⟨λh=>(by cases h),?_⟩;refine RoundIn.mono t ?_;rintro e W3 (⟨rfl,u,y⟩|⟨rfl,j⟩)
       ·clear t C;gi_wp2;refine⟨⟨k+1,om,gn,?_,O _ _ y b⟩,by simp[intOf];omega⟩;rw[sR,←las];exact u
       ·clear t C;gi_wp2;refine bpr (results_none rfl _ _ _) rfl ?_;exact⟨⟨_,rfl⟩,.inr ⟨_,HP.oQ,j⟩⟩
      ·have p:k=ln x.ll:=om;gi_wp2;refine⟨⟨m+1,om,gn,?_,b⟩,by simp[intOf];omega⟩;rw[sN,←las,←p];rw[←p]at a;exact a
    ·have r:m=ln x.wl:=om;gi_wp2;refine⟨⟨d+1,om,gn,?_,b⟩,by simp[intOf];omega⟩;rw[pN,←r];rw[←r]at a;exact a
  ·have v:d=L+1:=om;have q:¬(d:Int)<(L:Int)+1:=om;gi_wp2;go_end0;exact⟨⟨_,rfl⟩,.inl (by rw[←v];exact a)⟩
