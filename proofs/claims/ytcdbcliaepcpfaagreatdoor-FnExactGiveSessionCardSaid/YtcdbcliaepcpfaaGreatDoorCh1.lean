import Derived.Test.YtcdbcliaepcpfaaGreatDoorWv
import Derived.Test.YtcdbcliaepcpfaaGreatDoorLeast
namespace Go.Proofs.YtcdbcliaepcpfaaGreatDoor
set_option maxRecDepth 100000
set_option maxHeartbeats 4000000
open Go.RowKit
structure iW (w:World)(b:Bk):Prop where
 hf:Xs 3 Fx.cells w b.fa b.fl
 hnf:b.fl.length<=1048576
 hcap:b.fl.length<=b.fc
 hc2:b.fc<=9223372036854775807
 hs:∀f∈b.fl,f.n.size<=9223372036854775807
 hh:Xs 3 Hx.cells w b.ha b.hl
 hnh:b.hl.length<=1048576
 hgood:∀h∈b.hl,h.In w/\h.Fit
theorem iW.zL {w w':World}{b:Bk}(h:iW w b)(a:aF w w'):iW w' b:=
 ⟨h.hf.zL a,h.hnf,h.hcap,h.hc2,h.hs,h.hh.zL a,h.hnh,λx hx=>⟨(h.hgood x hx).1.zL a,(h.hgood x hx).2⟩⟩
theorem iW.with {w:World}{b:Bk}{t:List Bx}{ta:Option Addr}(h:iW w b)(c:jJ w ta t)(a:t.length<=1048576):pU w b t ta:=
 ⟨h.hf,h.hnf,h.hcap,h.hc2,h.hs,h.hh,h.hnh,h.hgood,c,a⟩
structure iL (w:World)(x:Wx):Prop where
 hi:x.In w
 hf:x.Fit
 hc:∀y∈x.wl,y.l.length<=y.c/\y.c<=9223372036854775807
theorem iL.zL {w w':World}{x:Wx}(h:iL w x)(a:aF w w'):iL w' x:=⟨h.hi.zL a,h.hf,h.hc⟩
abbrev fW (late way lev:Int):Value:=.agg #[.int .i64 late,.int .i64 way,.int .i64 lev]
abbrev iR (late way lev:Int):Obj:=.cells #[.int .i64 late,.int .i64 way,.int .i64 lev] 80
def rX (b:Bk)(x:Wx)(late way lev:Int):Bool:=aQ b.fl (bM x way lev late)&&(fJ b.now (bM x way lev late)&&jO x.n (bM x way lev late) b.hl)
theorem sV (x:Wx)(c b a:Int):(bM x c b a).length<=40:=by
 unfold bM;split;·rw[nB,eI];omega
 ·simp
theorem OQ (b:Bk)(x:Wx)(a d c:Int)(w:World)(D:iW w b)(hx:iL w x):
 aY 162 #[b.val,x.val,fW a d c] w λe w'=>e=.returned (.bool (rX b x a d c))/\aF w w':=by
 have g:aF w (((w.alloc b.obj).alloc x.obj).alloc (iR a d c)):=aB (aB (aB (br _ _) _) _) _;have p:=(halq ((w.alloc b.obj).alloc x.obj) (iR a d c) w.heap.size (by simp;omega)).trans ((halq (w.alloc b.obj) x.obj w.heap.size (by simp)).trans (wnq w b.obj));have k:=wnq (w.alloc b.obj) x.obj;rw[wsa]at k;have r:=(halq ((w.alloc b.obj).alloc x.obj) (iR a d c) (w.heap.size+1) (by simp)).trans k;clear k;obtain⟨T,s⟩:=cK (bM x d c a);have l:T.length<=1048576:=by rw[←s];have:=sV x d c a;omega
 unfold rX;rw[s];have P:=aG s;clear s;obtain⟨S,y⟩:∃v,aQ b.fl T=v:=⟨_,rfl⟩;obtain⟨L,z⟩:∃v,fJ b.now T=v:=⟨_,rfl⟩;obtain⟨v3,A⟩:∃v,jO x.n T b.hl=v:=⟨_,rfl⟩;rw[y,z,A];have M:Hid _:=y;have N:Hid _:=z;have O:Hid _:=A;clear y z A;have F:=hx.hf;go_enter Tryz.func162,Tryz.ntmps162;go_wp2_with fail;obtain⟨Q,o⟩:=cK (((w.alloc b.obj).alloc x.obj).alloc (iR a d c));rw[o]at g p r ⊢;clear o;refine(cw.1 (sC 4 (by omega) x d c a Q (hx.hi.zL g) F.wn F.ln F.yn)).mono ?_;rintro e U ⟨⟨v,rfl,C⟩,h⟩;rw[P.oQ]at C;obtain⟨ta,K,rfl,B⟩:=C.slice;have t:=(h.block _ (bU p)).trans p;have I:=(h.block _ (bU r)).trans r;have u:=aC g h;have R:U.cell? ⟨w.heap.size,1,none⟩=some (.slice b.fa b.fl.length b.fc):=aJ t rfl;have i:Hid _:=t;have j:Hid _:=I;clear p r t I g h C;go_wp2_with fail;refine(oL b.fl T _ _ _ _ _ (D.hf.zL u) B D.hnf l).mono ?_;rintro e G ⟨rfl,f⟩;rw[M.out];have q:=aC u f;have m:=B.zL f;have H:=(f.block _ (bU i.oQ)).trans i.oQ;have J:=(f.block _ (bU j.oQ)).trans j.oQ;obtain⟨m0,m1,m2⟩:=aM H;have m3:G.cell? ⟨w.heap.size+1,0,none⟩=some (.string x.n):=aJ J rfl;clear i j u B f R H J;cases S with
 |false=>
  go_wp2;go_ret;exact⟨rfl,q⟩
 |true=>
 go_wp2_with fail;refine(tD T b.now L N.out ta K G m l).mono ?_;rintro e G ⟨rfl,rfl⟩;cases L with
 |false=>
  go_wp2;go_ret;exact⟨rfl,q⟩
 |true=>
 go_wp2_with fail;refine(sO b x.n T ta K _ ((D.zL q).with m l)).mono ?_;rintro e w3 ⟨rfl,E⟩;rw[O.out];go_wp2;go_ret;exact⟨rfl,aC q E⟩
theorem zG (a:Int)(t:List Bx)(ta:Option Addr)(u:Nat)(w:World)(s:jJ w ta t)(r:1<=t.length)(hn0:0<=a)(hn1:a<=10000)(d:0<=(t[0]'(by omega)).i)(f:(t[0]'(by omega)).i<=10000):
 aY 271 #[.int .i64 a,.slice ta t.length u] w λe w'=>e=.returned (Sp.val ⟨0,a-(t[0]'(by omega)).i-1⟩)/\aF w w':=by
 rcases s with h|⟨l,off,rfl,k⟩;·subst h;simp at r
 have j:=k 0 (by omega);obtain⟨c,b⟩:=cK (t[0]'(by omega));rw[b]at j d f ⊢;clear b k;obtain⟨g,m,n,o,p,q⟩:=j;rw[Nat.zero_mul,Nat.add_zero]at g m n o p q;have hl:(1:Int)<=(t.length:Int):=by omega
 have hl0:(0:Int)<(t.length:Int):=by omega
 have hbl:l<w.heap.size:=aA g;have hl2:0<t.length:=by omega
 go_enter Tryz.func271,Tryz.ntmps271;go_wp2;refine bpr (v:=Sp.val ⟨0,a-c.i-1⟩) ?_ rfl ⟨rfl,aB (br _ _) _⟩;simp[results,Tryz.results271,go_sem]
theorem JU (x:Wx)(a:List Cx)(b d:Int)(j:Nat):lU x a b d j=dF d (lU x a b 0 j):=by
 unfold lU dF;simp only[Bx.mk.injEq,true_and];constructor<;>omega
theorem vA (x:Wx)(i k d:Int)(a:0<=d)(b:d<=300):bM x i k d=dB d (bM x i k 0):=by
 have e:iC x d=iC x 0:=by
  unfold iC;have c:fO d 0 300=true:=decide_eq_true ⟨a,b⟩;have f:fO 0 0 300=true:=by decide
  rw[c,f]
 unfold bM;rw[e];split
 ·unfold pX dB;rw[List.map_map];exact List.map_congr_left λj _=>JU x _ _ d j
 ·rfl
theorem ET (x:Wx)(hx:0<=x.f)(b:0<=x.q)(i k:Int):∀c∈bM x i k 0,0<=c.i:=by
 unfold bM;split
 ·intro c a;obtain⟨j,_,rfl⟩:=List.mem_map.1 a;have:0<=(j:Int)*x.q:=Int.mul_nonneg (by omega) b;show 0<=x.f+0+(j:Int)*x.q;omega
 ·intro c a;cases a
theorem FH {a:List Fx}{t:List Bx}{d:Int}(m:∀c∈t,0<=c.i)(hd:0<=d)(h:aQ a t=false):aQ a (dB d t)=false:=by
 rw[Bool.eq_false_iff]at h ⊢;intro g;apply h;simp only[aQ,bat]at g ⊢;obtain⟨b,j,k,e⟩:=g;rw[dR]at b;have hl:1<=t.length:=by simp only[n6,dte]at b;omega
 refine⟨b,?_,?_,?_⟩
 ·rw[lat];intro c f;have hc0:=m c f;have:=lat.1 j (dF d c) (List.mem_map.2 ⟨c,f,rfl⟩);simp only[aK,dte]at this ⊢;simp only[dF]at this;omega
 ·refine(fC t).2 λi l=>?_;have:=(fC _).1 k i (by rw[dR];exact l);rw[g7,g7]at this;simp only[dP,dte]at this ⊢;simp only[dF]at this;omega
 ·rw[lC a (dB d t) (by rw[dR];omega),g7]at e;rw[lC a t (by omega)];simp only[dR]at e;exact e
theorem WC {t:List Bx}(a:eY t=true):∀(i:Nat) (h:i<t.length),(t[0]'(by omega)).i<=t[i].i
 |0,h=>Int.le_refl _
 |i+1,h=>by
  have h1:=WC a i (by omega);have b:=(fC t).1 a i h;simp only[dP,dte]at b;omega
theorem LA {t:List Bx}{d a:Int}(k:eY t=true)(hl:1<=t.length):fJ a (dB d t)=decide (¬d<=a-(t[0]'(by omega)).i-1):=by
 rw[Bool.eq_iff_iff,dte];unfold fJ;rw[lat];constructor
 ·intro h;have e:decide (a<=(dF d (t[0]'(by omega))).i)=true:=h (dF d (t[0]'(by omega))) (List.mem_map.2 ⟨_,lgm _,rfl⟩);have f:=of_decide_eq_true e;simp only[dF]at f;omega
 ·intro h c g;obtain⟨c',b,rfl⟩:=List.mem_map.1 g;obtain⟨i,j,rfl⟩:=lgo b;have:=WC k i j;show decide (a<=(dF d t[i]).i)=true;apply decide_eq_true;simp only[dF];omega
theorem KX {b:Bk}{x:Wx}{i k d:Int}(f:aN b=true)(a:0<=d)(c:d<=300)(e:aQ b.fl (bM x i k 0)=true)(j:1<=(bM x i k 0).length):
 rX b x d i k=false↔(kU b x.n (bM x i k 0) d∨(0<=d/\d<=b.now-((bM x i k 0)[0]'(by omega)).i-1)):=by
 have l:eY (bM x i k 0)=true:=by simp only[aQ,bat]at e;exact e.2.2.1
 unfold rX;rw[vA x i k d a c,LA l j,yQ f e a,CE];generalize aQ b.fl (dB d (bM x i k 0))=u;generalize jO x.n (dB d (bM x i k 0)) b.hl=v;by_cases h:d<=b.now-((bM x i k 0)[0]'(by omega)).i-1
 ·rw[decide_eq_false (by simpa using h)];constructor;·intro _;exact .inr ⟨a,h⟩
  ·intro _;cases u<;>simp
 ·rw[decide_eq_true h];constructor;·intro g;left;simpa using g
  ·rintro(g|⟨_,g⟩);·simpa using g
   ·exact absurd g h
theorem IV {b:Bk}{x:Wx}{i k d:Int}(hx:0<=x.f)(e:0<=x.q)(a:0<=d)(c:d<=300)(g:aQ b.fl (bM x i k 0)=false):rX b x d i k=false:=by
 unfold rX;rw[vA x i k d a c,FH (ET x hx e i k) a g];rfl
end Go.Proofs.YtcdbcliaepcpfaaGreatDoor
namespace Go.Proofs.YtcdbcliaepcpfaaGreatDoor
set_option maxRecDepth 100000
set_option maxHeartbeats 8000000
open Go.RowKit Go.Shelf
attribute [local go_sem] Oper.semAt_some
def oV (most:Int)(P:Int->Prop)(v:Value)(w:World):Prop:=∃ao cap l,v=.slice ao (List.length l) cap/\GP w ao l/\l.length<=20000/\∀d,0<=d->d<=most->(gS l d↔P d)
theorem oV.zL {a:Int}{P:Int->Prop}{v:Value}{w w':World}(h:oV a P v w)(i:aF w w'):oV a P v w':=by
 obtain⟨c,b,l,d,e,f,g⟩:=h;exact⟨c,b,l,d,e.zL i,f,g⟩
theorem QF (a:Int)(hmost:a<=300)(m:Sp)(P:Int->Prop)(v:Value)(w:World)(h:kJ a P v w)(k:0<=m.lo)(n:m.hi<=10000):
 aY 154 #[v,m.val] w λe w'=>(∃r,e=.returned r/\oV a (λd=>P d∨(m.lo<=d/\d<=m.hi)) r w')/\aF w w':=by
 obtain⟨t,i,l,rfl,y,j,z⟩:=h;refine(RC 10000 (by omega) l m t i w y ⟨j.c,λs o=>⟨(j.b s o).1,by have:=(j.b s o).2;omega⟩⟩ k n).mono ?_;rintro e w' ⟨⟨g,f,q,rfl,B,p,C⟩,A⟩;refine⟨⟨_,rfl,g,f,q,rfl,B,?_,λd u x=>by rw[C,z d u x]⟩,A⟩;have:=kE q 0 10000 p.c p.b;omega
def XZ (b:Bk)(x:Wx)(T:List Bx)(ta:Option Addr)(tc:Nat)(z:Nat)(i0:Int)(j:Nat)(v:Value)(w:World):Prop:=
 match j with
 |0=>v=b.val
 |1=>v=.pointer (some ⟨z+1,0,none⟩)
 |2=>v=.string x.n
 |3=>v=.slice ta T.length tc
 |4=>v=.pointer (some ⟨z+1,5,none⟩)
 |5=>v=.int .i64 x.l
 |6=>kJ x.l (kU b x.n T) v w
 |7=>v=.pointer (some ⟨z,0,none⟩)
 |8=>v=.int .i64 b.now
 |9=>v=.slice ta T.length tc
 |10=>v=Sp.val ⟨0,b.now-i0-1⟩
 |11=>oV x.l (λd=>kU b x.n T d∨(0<=d/\d<=b.now-i0-1)) v w
 |_=>True
theorem XZ.zL {b:Bk}{x:Wx}{T:List Bx}{ta:Option Addr}{d:Nat}{z:Nat}{c:Int}(j:Nat)(v:Value)(w w':World)(h:XZ b x T ta d z c j v w)(a:aF w w'):XZ b x T ta d z c j v w':=by
 unfold XZ at h ⊢;split
 all_goals first
  |exact h
  |exact kJ.zL h a
  |exact oV.zL h a
  |trivial
theorem XA (W:World)(s:Sp)(t:Nat):Xs 2 Sp.cells (W.alloc (.cells #[.int .i64 s.lo,.int .i64 s.hi] t)) (some ⟨W.heap.size,0,none⟩) [s]:=by
 refine .inr ⟨W.heap.size,0,rfl,λk b=>?_⟩;have:k=0:=by simpa using b
 subst this;intro j v a;match j,a with
 |0,a=>simp[Sp.cells]at a;subst a;simp
 |1,a=>simp[Sp.cells]at a;subst a;simp
theorem PA (n:Nat)(hn:4<=n)(b:Bk)(x:Wx)(i k:Int)(w:World)(hb:iW w b)(hx:iL w x)(Q:aN b=true)(F:0<=b.now)(G:b.now<=10000)(zh:0<=x.l)(P:x.l<=300)(zi:0<=x.f)(zj:0<=x.q):
 CallsIn Fence.wide n Tryz.prog 262 #[b.val,x.val,fW 0 i k] w λe w'=>(∃v,e=.returned v/\oV x.l (λd=>rX b x d i k=false) v w')/\aF w w':=by
 have h1n:1<=n:=by omega
 have u:aF w (((w.alloc b.obj).alloc x.obj).alloc (iR 0 i k)):=aB (aB (aB (br _ _) _) _) _;have S:=(halq ((w.alloc b.obj).alloc x.obj) (iR 0 i k) w.heap.size (by simp;omega)).trans ((halq (w.alloc b.obj) x.obj w.heap.size (by simp)).trans (wnq w b.obj));have D:=wnq (w.alloc b.obj) x.obj;rw [wsa] at D;have V:=(halq ((w.alloc b.obj).alloc x.obj) (iR 0 i k) (w.heap.size+1) (by simp)).trans D;clear D;obtain ⟨T,E⟩:=cK (bM x i k 0);have M:T.length<=1048576:=by rw [←E];have:=sV x i k 0;omega
 obtain ⟨v1,g1⟩:∃v,aQ b.fl T=v:=⟨_,rfl⟩;have U:=aG E;have H:=aG g1;have hf:=hx.hf;clear E g1;refine callsIn_of_wp Tryz.func262 rfl trivial ?_ rfl;simp only [Tryz.ntmps262,lsz,llc,lln,Nat.reduceAdd,Nat.reduceSub,ars,arz,lpt,lap,lna,lca];gi_wp2_with fail;refine ⟨trivial,?_⟩;obtain ⟨W0,O⟩:=cK (((w.alloc b.obj).alloc x.obj).alloc (iR 0 i k));rw [O] at u S V ⊢;clear O;refine (cw.2 (pY x i k 0 W0 (hx.hi.zL u) hx.hc hx.hf.yn)).mono ?_;rintro e w1 ⟨⟨v,rfl,hO⟩,y⟩;rw [U.oQ] at hO;obtain ⟨ta,I,rfl,hB⟩:=hO.slice;have X:=(y.block _ (bU S)).trans S;have X1:=(y.block _ (bU V)).trans V;have N1:=aC u y;have k1:w1.cell? ⟨w.heap.size,1,none⟩=some (.slice b.fa b.fl.length b.fc):=aJ X rfl;have A:Hid _:=X;have C:Hid _:=X1;clear S V X X1 u y hO;gi_wp2_with fail;refine ⟨trivial,?_⟩;refine (cw.2 (pH b.fl T _ _ _ _ _ (hb.hf.zL N1) hB hb.hnf M)).mono ?_;rintro e w2 ⟨rfl,m⟩;rw [H.out];have N2:=aC N1 m;have K:=hB.zL m;have B2:=(m.block _ (bU A.oQ)).trans A.oQ;have X2:=(m.block _ (bU C.oQ)).trans C.oQ;obtain ⟨m0,m1,m2⟩:=aM B2;have m3:w2.cell? ⟨w.heap.size+1,0,none⟩=some (.string x.n):=aJ X2 rfl;have m4:w2.cell? ⟨w.heap.size+1,5,none⟩=some (.int .i64 x.l):=aJ X2 rfl;clear A C N1 hB m k1 B2 X2;cases v1 with
 |false=>
  have zb:Hid (∀d,0<=d->d<=x.l->(gS [⟨0,x.l⟩] d↔rX b x d i k=false)):=λd t z=>
   ⟨λ_=>IV zi zj t (by omega) (by rw [U.oQ];exact H.out),λ_=>⟨_,List.mem_singleton.2 rfl,t,z⟩⟩
  gi_wp2_with fail;refine ⟨trivial,?_⟩;refine (cw.2 (m9 x.l w2)).mono ?_;rintro e W ⟨rfl,zf⟩;have N3:=aC N2 zf;have HR:GP (W.alloc (.cells #[.int .i64 0,.int .i64 x.l] 152)) (some ⟨W.heap.size,0,none⟩) [⟨0,x.l⟩]:=⟨XA W ⟨0,x.l⟩ 152,.inr ⟨_,_,_,rfl,wnq W _⟩⟩;have zc:Hid _:=HR;clear HR;gi_wp2;go_ret;exact ⟨⟨_,rfl,_,_,[⟨0,x.l⟩],rfl,zc.oQ,by simp,zb.oQ⟩,aB N3 _⟩
 |true=>
 have N:1<=T.length:=by
  have:=H.out;simp only [aQ,n6,bat,dte] at this;omega
 have zg:aK (T[0]'(by omega))=true:=by
  have:=H.out;simp only [aQ,bat] at this;exact lat.1 this.2.1 _ (lgm _)
 have L:0<=(T[0]'(by omega)).i/\(T[0]'(by omega)).i<=10000:=by simp only [aK,dte] at zg;omega
 have Z:Hid (∀d,0<=d->d<=x.l->(rX b x d i k=false↔(kU b x.n T d∨(0<=d/\d<=b.now-(T[0]'(by omega)).i-1)))):=λd t z=>by
  have E:=U.oQ;have h:=KX (b:=b) (x:=x) (i:=i) (k:=k) (d:=d) Q t (by omega) (by rw [E];exact H.out) (by rw [E];exact N);simp only [E] at h;exact h
 have Y:=aG H.out;clear U;gi_wp2_with fail
 refine jF (by kernel_rfl) 12 rfl (λa=>{ tmps:=#[b.val,x.val,fW 0 i k,.pointer (some ⟨w.heap.size,0,none⟩),.pointer (some ⟨w.heap.size+1,0,none⟩),.pointer (some ⟨w.heap.size+1+1,0,none⟩),.slice none 0 0,.slice ta T.length I,.agg #[.string x.n,.int .i64 x.q,.int .i64 x.s,.int .i64 x.f,.int .i64 x.b,.int .i64 x.l,.slice x.wa x.wl.length x.wc,.slice x.la x.ll.length x.lc],.pointer (some ⟨w.heap.size+1+1,1,none⟩),.int .i64 i,.pointer (some ⟨w.heap.size+1+1,2,none⟩),.int .i64 k,.pointer (some ⟨w.heap.size+1+1,0,none⟩),.int .i64 0,.slice ta T.length I,.pointer (some ⟨w.heap.size,1,none⟩),.slice b.fa b.fl.length b.fc,.slice ta T.length I,.bool true,.bool false,undef,undef,undef,undef,a 0,a 1,a 2,a 3,a 4,a 5,a 6,a 7,a 8,a 9,a 10,a 11],defers:=[] }) (λ_=>undef)
  (XZ b x T ta I w.heap.size (T[0]'(by omega)).i) XZ.zL (GK (by kernel_rfl)) (yK (by kernel_rfl)) ?step ?fin
 case step=>
  intro j o a w' hj g c r;have n0:=(c.cell (aA m0)).trans m0;have n1:=(c.cell (aA m1)).trans m1;have n2:=(c.cell (aA m2)).trans m2;have n3:=(c.cell (aA m3)).trans m3;have n4:=(c.cell (aA m4)).trans m4;have ze:=aC N2 c;match j,hj with
  |0,_|1,_|3,_|4,_|7,_|9,_=>
   simp at g;subst g;gi_wp2;exact ⟨_,by simp [aH],rfl,br _ _⟩
  |2,_=>
   simp at g;subst g;have z:a 1=_:=Zq r 1;rw [z];gi_wp2;exact ⟨_,by simp [aH,z],rfl,br _ _⟩
  |5,_=>
   simp at g;subst g;have d4:a 4=_:=Zq r 4;rw [d4];gi_wp2;exact ⟨_,by simp [aH,d4],rfl,br _ _⟩
  |6,_=>
   simp at g;subst g;have t:a 0=_:=Zq r 0;have d2:a 2=_:=Zq r 2;have d3:a 3=_:=Zq r 3;have d5:a 5=_:=Zq r 5;rw [t,d2,d3,d5];gi_wp2_with fail;refine ⟨trivial,?_⟩;refine (cw.2 (tF b x.n T ta I x.l zh P w' ((hb.zL ze).with (K.zL c) M) Q Y.out)).mono ?_;rintro e w4 ⟨⟨v,rfl,R⟩,p⟩;have B:Hid _:=R;clear R;gi_wp2;exact ⟨_,by simp [aH,t,d2,d3,d5],B.oQ,p⟩
  |8,_=>
   simp at g;subst g;have d7:a 7=_:=Zq r 7;rw [d7];gi_wp2;exact ⟨_,by simp [aH,d7],rfl,br _ _⟩
  |10,_=>
   simp at g;subst g;have d8:a 8=_:=Zq r 8;have d9:a 9=_:=Zq r 9;rw [d8,d9];gi_wp2_with fail;refine ⟨trivial,?_⟩;refine (cw.2 (zG b.now T ta I w' (K.zL c) N F G L.1 L.2)).mono ?_;rintro e w4 ⟨rfl,p⟩;gi_wp2;exact ⟨_,by simp [aH,d8,d9],rfl,p⟩
  |11,_=>
   simp at g;subst g;have d6:kJ x.l (kU b x.n T) (a 6) w':=Zq r 6;have J:a 10=_:=Zq r 10;have za:Hid _:=d6;clear d6;rw [J];gi_wp2_with fail;refine ⟨trivial,?_⟩;refine (cw.2 (QF x.l P ⟨0,b.now-(T[0]'(by omega)).i-1⟩ _ (a 6) w' za.oQ (Int.le_refl _) (by show b.now-_-1<=10000;omega))).mono ?_;rintro e w4 ⟨⟨v,rfl,R⟩,p⟩;have B:Hid _:=R;clear R;gi_wp2;exact ⟨_,by simp [aH,J],B.oQ,p⟩
  |j+12,h=>exact absurd h (by omega)
 case fin=>
  intro o a w' g c hp;simp at g;subst g;have HF:Hid (oV x.l (λd=>kU b x.n T d∨(0<=d/\d<=b.now-(T[0]'(by omega)).i-1)) (a 11) w'):=hp 11 (by decide);clear hp;gi_wp2;go_ret;obtain ⟨ao,zd,l,e,hX,hl,hm⟩:=HF.oQ;exact ⟨⟨_,rfl,ao,zd,l,e,hX,hl,λd t z=>(hm d t z).trans (Z.oQ d t z).symm⟩,aC N2 c⟩
end Go.Proofs.YtcdbcliaepcpfaaGreatDoor
namespace Go.Proofs.YtcdbcliaepcpfaaGreatDoor
set_option maxRecDepth 100000
set_option maxHeartbeats 2000000
open Go.RowKit Go.Shelf
theorem BY (x:Wx)(w:World):
 aY 240 #[x.val] w λe w'=>e=.returned (.func (.func 263) #[] #[.pointer (some ⟨w.heap.size,0,none⟩)])/\aF w w'/\w'.heap[w.heap.size]?=some x.obj:=by
 have H:Hid (aF w (w.alloc x.obj)/\(w.alloc x.obj).heap[w.heap.size]?=some x.obj):=⟨aB (br _ _) _,wnq w x.obj⟩;go_enter Tryz.func240,Tryz.ntmps240;go_wp2;go_ret;exact⟨rfl,H.oQ⟩
theorem xY (b:Bk)(x:Wx)(w:World):
 aY 197 #[b.val,x.val] w λe w'=>e=.returned (.func (.func 238) #[] #[.pointer (some ⟨w.heap.size,0,none⟩),.pointer (some ⟨w.heap.size+1,0,none⟩)])/\aF w w'/\w'.heap[w.heap.size]?=some b.obj/\w'.heap[w.heap.size+1]?=some x.obj:=by
 have a:=wnq (w.alloc b.obj) x.obj;rw[wsa]at a
 have H:Hid (aF w ((w.alloc b.obj).alloc x.obj)/\((w.alloc b.obj).alloc x.obj).heap[w.heap.size]?=some b.obj/\((w.alloc b.obj).alloc x.obj).heap[w.heap.size+1]?=some x.obj):=
  ⟨aB (aB (br _ _) _) _,(halq _ _ _ (by simp)).trans (wnq w b.obj),a⟩
 clear a;go_enter Tryz.func197,Tryz.ntmps197;go_wp2;go_ret;exact⟨rfl,H.oQ⟩
end Go.Proofs.YtcdbcliaepcpfaaGreatDoor
namespace Go.Proofs.YtcdbcliaepcpfaaGreatDoor
set_option maxRecDepth 100000
set_option maxHeartbeats 16000000
open Go.RowKit
theorem Tryz.info80:(Tryz.prog.info? 80).map (λi=>(i.zero,i.size,i.bytes))=some (some (.agg #[.int .i64 0,.int .i64 0,.int .i64 0]),3,24):=by kernel_rfl
structure Co where
 d:Int
 i:Int
 k:Int
def Co.cells (c:Co):List Value:=[.int .i64 c.d,.int .i64 c.i,.int .i64 c.k]
abbrev Co.val (c:Co):Value:=fW c.d c.i c.k
abbrev Co.obj (c:Co):Obj:=iR c.d c.i c.k
def kV:List Co->List Value
 |[]=>[]
 |s::r=>s.cells++kV r
theorem tM:∀(l r:List Co),kV (l++r)=kV l++kV r
 |[],r=>rfl
 |a::l,r=>by simp[kV,tM l r]
theorem DH:∀(l:List Co) (i:Nat) (h:i<l.length) (j:Nat),j<3->(kV l)[i*3+j]?=(l[i].cells)[j]?
 |[],i,h,j,hj=>by simp at h
 |a::r,0,h,j,hj=>by
  rw[kV,List.getElem?_append_left (by simp[Co.cells];omega)];simp
 |a::r,i+1,h,j,hj=>by
  have h':i<r.length:=by simpa using h
  rw[kV,List.getElem?_append_right (by simp[Co.cells];omega)];have e:(i+1)*3+j-(Co.cells a).length=i*3+j:=by simp[Co.cells];omega
  rw[e,DH r i h' j hj];rfl
theorem VL {w:World}{base:Nat}{v:Value}{l:List Co}(h:w.ownsRow base 80 3 v l.length (kV l)):∃e a,v=.slice e l.length a/\Xs 3 Co.cells w e l/\l.length<=a:=by
 rcases h.2 with⟨b,i⟩|⟨g,a,cur,b,hb,hg,d,_,hs,ht⟩;·exact⟨none,0,by rw[b,i],Or.inl (List.eq_nil_of_length_eq_zero i),by omega⟩
 ·refine⟨some ⟨g,0,none⟩,a,b,Or.inr ⟨g,0,rfl,λk m j u f=>?_⟩,d⟩;have c:j<3:=(lgs.1 f).1;have:=h.cells (g:=g) (by rw[b];rfl) (k*3+j) u (by rw[DH l k m j c];exact f);rw[Addr.add_lit,Nat.zero_add]at this;rw[Nat.zero_add];exact this
theorem XF (W:World)(g:Nat)(b:g=W.heap.size)(s:Co):∀j u,(s.cells)[j]?=some u->(W.alloc s.obj).cell? ((⟨g,0,none⟩:Addr).add j)=some u:=by
 subst b;intro j u a;match j,a with
 |0,a=>simp[Co.cells]at a;subst a;simp[Addr.add]
 |1,a=>simp[Co.cells]at a;subst a;simp[Addr.add]
 |2,a=>simp[Co.cells]at a;subst a;simp[Addr.add]
 |n+3,a=>simp[Co.cells]at a
def lE (b:Bk)(x:Wx)(d i:Int)(k:Nat):List Co:=((List.range k).filter λ(j:Nat)=>rX b x d i (j:Int)).map λ(j:Nat)=>⟨d,i,(j:Int)⟩
def lZ (b:Bk)(x:Wx)(d:Int)(i:Nat):List Co:=(List.range i).flatMap λ(j:Nat)=>lE b x d (j:Int) x.ll.length
def gK (b:Bk)(x:Wx)(n:Nat):List Co:=(List.range n).flatMap λ(j:Nat)=>lZ b x (j:Int) x.wl.length
def sA (b:Bk)(x:Wx):List Co:=if aN b&&eJ b.fl x then gK b x (x.l.toNat+1)else[]
theorem GY {b:Bk}{x:Wx}{d i:Int}{k:Nat}(h:rX b x d i (k:Int)=true):lE b x d i (k+1)=lE b x d i k++[⟨d,i,(k:Int)⟩]:=by
 unfold lE;rw[List.range_succ,List.filter_append,List.map_append];simp[h]
theorem NQ {b:Bk}{x:Wx}{d i:Int}{k:Nat}(h:rX b x d i (k:Int)=false):lE b x d i (k+1)=lE b x d i k:=by
 unfold lE;rw[List.range_succ,List.filter_append,List.map_append];simp[h]
theorem wT (b:Bk)(x:Wx)(d:Int)(i:Nat):lZ b x d (i+1)=lZ b x d i++lE b x d (i:Int) x.ll.length:=by
 unfold lZ;rw[List.range_succ,List.flatMap_append];simp
theorem tH (b:Bk)(x:Wx)(n:Nat):gK b x (n+1)=gK b x n++lZ b x (n:Int) x.wl.length:=by
 unfold gK;rw[List.range_succ,List.flatMap_append];simp
theorem xL (b:Bk)(x:Wx)(d i:Int)(k:Nat):(lE b x d i k).length<=k:=by
 unfold lE;rw[List.length_map];exact Nat.le_trans (List.length_filter_le _ _) (by simp)
theorem qT (b:Bk)(x:Wx)(h:x.ll.length<=6)(d:Int):∀i,(lZ b x d i).length<=6*i
 |0=>by simp[lZ]
 |i+1=>by
  have:=qT b x h d i;have:=xL b x d (i:Int) x.ll.length;rw[wT,List.length_append];omega
theorem uW (b:Bk)(x:Wx)(h:x.ll.length<=6)(a:x.wl.length<=3):∀n,(gK b x n).length<=18*n
 |0=>by simp[gK]
 |n+1=>by
  have:=uW b x h a n;have:=qT b x h (n:Int) x.wl.length;rw[tH,List.length_append];omega
theorem zS {a:List Fx}{x:Wx}(h:eJ a x=true):x.wl.length<=3/\x.ll.length<=6/\0<=x.l/\x.l<=300:=by
 simp only[eJ,nM,iN,rU,oE,ES,bat,dte]at h;omega
theorem sK {w:World}{b:Bk}(h:iW w b)(v:Bool)(a:aN b=v):aY 38 #[b.val] w λe w'=>e=.returned (.bool v)/\aF w w':=
 vJ (h.with (t:=[]) (ta:=none) (.inl rfl) (by simp)) v a
theorem x9 (b:Bk)(x:Wx)(w:World)(V:iW w b)(hx:iL w x):
 aY 115 #[b.val,x.val] w λe w'=>(∃v,e=.returned v/\w'.ownsRow (w.heap.size+2) 80 3 v (sA b x).length (kV (sA b x)))/\aF w w':=by
 obtain⟨i0,zh,zm,zn,zo⟩:=info_parts Tryz.info80;have G:aF w (((w.alloc b.obj).alloc x.obj).alloc (.cells #[] 80)):=aB (aB (aB (br _ _) _) _) _;have B0:=(halq ((w.alloc b.obj).alloc x.obj) (.cells #[] 80) w.heap.size (by simp;omega)).trans ((halq (w.alloc b.obj) x.obj w.heap.size (by simp)).trans (wnq w b.obj));have M:=wnq (w.alloc b.obj) x.obj;rw[wsa]at M;have X0:=(halq ((w.alloc b.obj).alloc x.obj) (.cells #[] 80) (w.heap.size+1) (by simp)).trans M;clear M
 have j:(((w.alloc b.obj).alloc x.obj).alloc (.cells #[] 80)).ownsRow (w.heap.size+2) 80 3 (.slice (some ⟨w.heap.size+1+1,0,none⟩) 0 0) 0 (kV []):=by
  simpa[kV]using World.ownsRow_lit (base:=w.heap.size+2) (e:=80) (size:=3) ((w.alloc b.obj).alloc x.obj) #[] 0 (by simp) (nz _) rfl
 have C:(((w.alloc b.obj).alloc x.obj).alloc (.cells #[] 80)).heap.size=w.heap.size+3:=by simp
 obtain⟨v1,g1⟩:∃v,aN b=v:=⟨_,rfl⟩;obtain⟨v2,g2⟩:∃v,eJ b.fl x=v:=⟨_,rfl⟩;obtain⟨T,hT⟩:=bP (sA b x);rw[←hT];have HT:Hid (T=if v1&&v2 then gK b x (x.l.toNat+1)else[]):=by rw[Hid,hT,sA,g1,g2]
 have G1:Hid _:=g1;have G2:Hid _:=g2;clear hT g1 g2
 go_enter Tryz.func115,Tryz.ntmps115
 go_wp2_with fail
 obtain⟨W0,U⟩:=cK (((w.alloc b.obj).alloc x.obj).alloc (.cells #[] 80));rw[U]at G B0 X0 j C ⊢;clear U;refine(sK (V.zL G) v1 G1.out).mono ?_;rintro e w1 ⟨rfl,t⟩;have B1:=(t.block _ (bU B0)).trans B0;have X1:=(t.block _ (bU X0)).trans X0;have S:=aC G t;have o:=eO j t;have X:=t.size;rw[C]at X;clear j t B0 X0 G C
 cases v1 with
 |false=>
  go_wp2
  go_ret;exact⟨⟨_,rfl,by rw[HT.oQ];exact o⟩,S⟩
 |true=>
 have k1:w1.cell? ⟨w.heap.size,1,none⟩=some (.slice b.fa b.fl.length b.fc):=aJ B1 rfl;obtain⟨q0,q1,q2,q3,q4,Z,q6,q7⟩:=gJ X1;have J:Hid _:=B1;have L:Hid _:=X1;clear B1 X1;go_wp2_with fail
 refine(vI b.fl x b.fa b.fc w1 (V.hf.zL S) V.hnf V.hs (hx.hi.zL S) hx.hf).mono ?_;rintro e O ⟨rfl,y⟩;rw[G2.out];have P:=(y.block _ (bU J.oQ)).trans J.oQ;have r:=(y.block _ (bU L.oQ)).trans L.oQ;have N2:=aC S y;have p:=eO o y;have Y:=y.size;have Y:w.heap.size+3<=O.heap.size:=by omega
 clear o y J L S k1 q0 q1 q2 q3 q4 Z q6 q7 X
 cases v2 with
 |false=>
  go_wp2
  go_ret;exact⟨⟨_,rfl,by rw[HT.oQ];exact p⟩,N2⟩
 |true=>
 obtain⟨zl,W,hl0,hl1⟩:=zS G2.out;have D:Hid (O.heap[w.heap.size]?=some b.obj/\O.heap[w.heap.size+1]?=some x.obj):=⟨P,r⟩;clear P r G1 G2;have zd:Hid (T=gK b x (x.l.toNat+1)):=by rw[Hid,HT.oQ];rfl
 clear HT;go_wp2
 go_loopw [5,6] (λv5 i wr=>∃n:Nat,(n:Int)<=x.l+1/\i=.int .i64 n/\wr.ownsRow (w.heap.size+2) 80 3 v5 (gK b x n).length (kV (gK b x n))/\Below (w.heap.size+2) O wr) (λ_ i _=>(x.l+1-intOf i).toNat)
 case atStart=>exact⟨0,by omega,rfl,p,br _ _⟩
 case round=>
  clear p;obtain⟨n,hn,rfl,a,d⟩:=hrel;have I:aF w wr:=N2.trans (d.mono (by omega));have r:wr.heap[w.heap.size+1]?=some x.obj:=(d.block _ (by omega)).trans D.oQ.2;have Z:wr.cell? ⟨w.heap.size+1,5,none⟩=some (.int .i64 x.l):=aJ r rfl;have zb:=aG (uW b x W zl n);clear r
  by_cases hlt:(n:Int)<=x.l
  ·go_wp2
   clear Z
   go_loopw [5,7] (λv5 i ws=>∃m:Nat,m<=x.wl.length/\i=.int .i64 m/\ws.ownsRow (w.heap.size+2) 80 3 v5 (gK b x n++lZ b x n m).length (kV (gK b x n++lZ b x n m))/\Below (w.heap.size+2) O ws) (λ_ i _=>x.wl.length-(intOf i).toNat)
   case atStart=>exact⟨0,by omega,rfl,by simpa[lZ]using a,d⟩
   case round=>
    clear a d I;obtain⟨m,hm,rfl,a,d⟩:=hrel;have I:aF w wr:=N2.trans (d.mono (by omega));have r:wr.heap[w.heap.size+1]?=some x.obj:=(d.block _ (by omega)).trans D.oQ.2;have q6:wr.cell? ⟨w.heap.size+1,6,none⟩=some (.slice x.wa x.wl.length x.wc):=aJ r rfl;have ze:=aG (qT b x W n m);clear r
    by_cases hmt:m<x.wl.length
    ·go_wp2
     clear q6
     go_loopw [5,8] (λv5 i ws=>∃k:Nat,k<=x.ll.length/\i=.int .i64 k/\ws.ownsRow (w.heap.size+2) 80 3 v5 (gK b x n++lZ b x n m++lE b x n m k).length (kV (gK b x n++lZ b x n m++lE b x n m k))/\Below (w.heap.size+2) O ws) (λ_ i _=>x.ll.length-(intOf i).toNat)
     case atStart=>exact⟨0,by omega,rfl,by simpa[lE]using a,d⟩
     case round=>
      clear a d I;obtain⟨k,hk,rfl,a,d⟩:=hrel;have I:aF w wr:=N2.trans (d.mono (by omega));have P:wr.heap[w.heap.size]?=some b.obj:=(d.block _ (by omega)).trans D.oQ.1;have r:wr.heap[w.heap.size+1]?=some x.obj:=(d.block _ (by omega)).trans D.oQ.2;have q7:wr.cell? ⟨w.heap.size+1,7,none⟩=some (.slice x.la x.ll.length x.lc):=aJ r rfl;have hwz:w.heap.size+3<=wr.heap.size:=Nat.le_trans Y d.size;have za:=aG (xL b x n m k)
      by_cases hkt:k<x.ll.length
      ·have g:aF wr (wr.alloc (iR n m k)):=aB (br _ _) _
       have B3:=(g.block _ (by omega)).trans P;have E:=(g.block _ (by omega)).trans r;have Q:=wnq wr (iR n m k);have p0:(wr.alloc (iR n m k)).cell? ⟨w.heap.size,0,none⟩=some (.int .i64 b.now):=aJ B3 rfl;have p1:(wr.alloc (iR n m k)).cell? ⟨w.heap.size,1,none⟩=some (.slice b.fa b.fl.length b.fc):=aJ B3 rfl;have p2:(wr.alloc (iR n m k)).cell? ⟨w.heap.size,2,none⟩=some (.slice b.ha b.hl.length b.hc):=aJ B3 rfl;have q0:(wr.alloc (iR n m k)).cell? ⟨w.heap.size+1,0,none⟩=some (.string x.n):=aJ E rfl;have q1:(wr.alloc (iR n m k)).cell? ⟨w.heap.size+1,1,none⟩=some (.int .i64 x.q):=aJ E rfl;have q2:(wr.alloc (iR n m k)).cell? ⟨w.heap.size+1,2,none⟩=some (.int .i64 x.s):=aJ E rfl;have q3:(wr.alloc (iR n m k)).cell? ⟨w.heap.size+1,3,none⟩=some (.int .i64 x.f):=aJ E rfl;have q4:(wr.alloc (iR n m k)).cell? ⟨w.heap.size+1,4,none⟩=some (.int .i64 x.b):=aJ E rfl;have Z:(wr.alloc (iR n m k)).cell? ⟨w.heap.size+1,5,none⟩=some (.int .i64 x.l):=aJ E rfl;have q6:(wr.alloc (iR n m k)).cell? ⟨w.heap.size+1,6,none⟩=some (.slice x.wa x.wl.length x.wc):=aJ E rfl;have q8:(wr.alloc (iR n m k)).cell? ⟨w.heap.size+1,7,none⟩=some (.slice x.la x.ll.length x.lc):=aJ E rfl;have r0:(wr.alloc (iR n m k)).cell? ⟨wr.heap.size,0,none⟩=some (.int .i64 n):=aJ Q rfl;have r1:(wr.alloc (iR n m k)).cell? ⟨wr.heap.size,1,none⟩=some (.int .i64 m):=aJ Q rfl;have r2:(wr.alloc (iR n m k)).cell? ⟨wr.heap.size,2,none⟩=some (.int .i64 k):=aJ Q rfl;have K:Hid _:=Q;clear r P E B3 Q;obtain⟨cv,N⟩:∃v,rX b x n m k=v:=⟨_,rfl⟩;have R:Hid _:=N;go_wp2_with fail
       refine(OQ b x n m k _ (V.zL (aC I g)) (hx.zL (aC I g))).mono ?_;rintro e w3 ⟨rfl,H⟩;rw[N];have c:=eO (eO a g) H;have F:=bL (bL d (by omega) g) (by have:=g.size;omega) H;have C4:=(H.block _ (bU K.oQ)).trans K.oQ;obtain⟨r0,r1,r2⟩:=aM C4;clear N a d I g p0 p1 p2 q0 q1 q2 q3 q4 Z q6 q7 q8 H C4 K;have h3z:=F.size
       have hLen:(gK b x n++lZ b x n m++lE b x n m k).length<=10000:=by
        have h1:=zb.oQ;have h2:=ze.oQ;have h3:=za.oQ;simp only[List.length_append];omega
       cases cv with
       |false=>
        go_wp2
        go_roundw
        case rel=>exact⟨k+1,by omega,by go_num,by rw[NQ R.oQ];exact c,F⟩
        case measure=>simp[intOf];omega
       |true=>
        go_wp2_with (at_builtin;refine wpList_append_own_at _ rfl (.tmp 50) (.tmp 52) 157 rfl (w.heap.size+2) 80 i0 _ 3 24 Tryz.underlying157 zh zm zn zo rfl (by decide) _ _ _ rfl (c.alloc _) ⟨w3.heap.size,0,none⟩ 1 1 (Co.cells ⟨n,m,k⟩) rfl rfl ?qc1 ?qc2 ?qc3 ?qc4 ?qc5 ?_)
        case qc1=>first|exact λ_ _ h=>h|exact XF _ _ rfl ⟨n,m,k⟩
        case qc2=>intro u hu;simp[Co.cells]at hu;rcases hu with rfl|rfl|rfl<;>rfl
        case qc3=>unfold maxLen;omega
        case qc4=>omega
        case qc5=>simp;omega
        intro v' w4 A z _ zg
        have B:w4.ownsRow (w.heap.size+2) 80 3 v' (gK b x n++lZ b x n m++lE b x n m (k+1)).length (kV (gK b x n++lZ b x n m++lE b x n m (k+1))):=by
         rw[GY R.oQ,←List.append_assoc,tM,List.length_append];simpa[kV]using A
        have zf:Below (w.heap.size+2) O w4:=eV (lP F (by omega) _) (by omega) z (λk e=>(c.lt k e).1);have zc:Hid _:=B;clear z A zg c F B;go_wp2
        go_roundw
        case rel=>exact⟨k+1,by omega,by go_num,zc.oQ,zf⟩
        case measure=>simp[intOf];omega
      ·have zi:k=x.ll.length:=by omega
       subst zi;clear r P;go_wp2
       go_roundw
       case rel=>exact⟨m+1,by omega,by go_num,by rw[wT,←List.append_assoc];exact a,d⟩
       case measure=>simp[intOf];omega
    ·have zj:m=x.wl.length:=by omega
     subst zj;go_wp2
     go_roundw
     case rel=>exact⟨n+1,by omega,by go_num,by rw[tH];exact a,d⟩
     case measure=>simp[intOf];omega
  ·have zk:n=x.l.toNat+1:=by omega
   have HO:Hid (wr.ownsRow (w.heap.size+2) 80 3 u5 T.length (kV T)):=by rw[Hid,zd.oQ,←zk];exact a
   clear a;go_wp2
   go_ret;exact⟨⟨_,rfl,HO.oQ⟩,I⟩
def gM:List Co->Value
 |[]=>.tuple #[fW 0 0 0,.bool false]
 |c::_=>.tuple #[fW c.d c.i c.k,.bool true]
theorem YR {w:World}{b a:Nat}{c:Co}(h:aZ w b a c.cells):w.cell? ⟨b,a,none⟩=some (.int .i64 c.d)/\w.cell? ⟨b,a+1,none⟩=some (.int .i64 c.i)/\w.cell? ⟨b,a+2,none⟩=some (.int .i64 c.k):=
 ⟨h 0 _ rfl,h 1 _ rfl,h 2 _ rfl⟩
theorem EG (b:Bk)(x:Wx)(w:World)(D:iW w b)(hx:iL w x):
 aY 78 #[b.val,x.val] w λe w'=>e=.returned (gM (sA b x))/\aF w w':=by
 have f:aF w (((w.alloc b.obj).alloc x.obj).alloc (iR 0 0 0)):=aB (aB (aB (br _ _) _) _) _;have d:=wnq ((w.alloc b.obj).alloc x.obj) (iR 0 0 0);rw[wsa,wsa]at d;obtain⟨L,l⟩:=cK (sA b x);rw[l];have u:Hid _:=l;clear l;go_enter Tryz.func78,Tryz.ntmps78;go_wp2_with fail;obtain⟨y,j⟩:=cK (((w.alloc b.obj).alloc x.obj).alloc (iR 0 0 0));rw[j]at f d ⊢;clear j;refine(x9 b x y (D.zL f) (hx.zL f)).mono ?_;rintro e w1 ⟨⟨v,rfl,m⟩,g⟩;rw[u.oQ]at m;have n:=aC f g;have k:=(g.block _ (bU d)).trans d;obtain⟨ao,cap,rfl,C,_⟩:=VL m;clear m g d f;obtain⟨q,s,t⟩:=aM k;have hz:=(bU k);have a:w.heap.size<=w.heap.size+1+1:=by omega
 have rf:=iQ k;cases L with
 |nil=>
  simp only[lln];go_wp2;refine bpr (v:=gM []) ?_ rfl ⟨rfl,((n.setCell (p:=⟨w.heap.size+1+1,0,none⟩) a _).setCell (p:=⟨w.heap.size+1+1,1,none⟩) a _).setCell (p:=⟨w.heap.size+1+1,2,none⟩) a _⟩;simp[results,Tryz.results78,go_sem,gM,q,s,t]
 |cons c r=>
  rcases C with h|⟨bl,off,rfl,o⟩;·cases h
  have i:=o 0 (by simp);rw[Nat.zero_mul,Nat.add_zero]at i;obtain⟨z,A,B⟩:=YR i;simp only[List.getElem_cons_zero]at z A B;clear o i;simp only[llc];go_wp2;refine bpr (v:=gM (c::r)) ?_ rfl ⟨rfl,((n.setCell (p:=⟨w.heap.size+1+1,0,none⟩) a _).setCell (p:=⟨w.heap.size+1+1,1,none⟩) a _).setCell (p:=⟨w.heap.size+1+1,2,none⟩) a _⟩;simp[results,Tryz.results78,go_sem,gM,q,s,t]
end Go.Proofs.YtcdbcliaepcpfaaGreatDoor
namespace Go.Proofs.YtcdbcliaepcpfaaGreatDoor
set_option maxRecDepth 100000
set_option maxHeartbeats 8000000
open Go.RowKit Go.Shelf
attribute [local go_sem] Oper.semAt_some
abbrev WG (L:Nat):={ c:Co//0<=c.d/\c.d<=(L:Int)}
def I2 (L d i k:Nat):WG L:=⟨⟨((min d L:Nat):Int),(i:Int),(k:Int)⟩,by constructor<;>simp only<;>omega⟩
theorem yI {L d:Nat}(i k:Nat)(h:d<=L):(I2 L d i k).1=⟨(d:Int),(i:Int),(k:Int)⟩:=by
 simp only[I2,Nat.min_eq_left h]
def wR (L d i k:Nat):List (WG L):=(List.range k).map (I2 L d i)
def vR (L ln d i:Nat):List (WG L):=(List.range i).flatMap λj=>wR L d j ln
def kC (L wn ln n:Nat):List (WG L):=(List.range n).flatMap λj=>vR L ln j wn
theorem rN (L d i k:Nat):wR L d i (k+1)=wR L d i k++[I2 L d i k]:=by
 unfold wR;rw[List.range_succ,List.map_append];rfl
theorem rC (L a d i:Nat):vR L a d (i+1)=vR L a d i++wR L d i a:=by
 unfold vR;rw[List.range_succ,List.flatMap_append];simp
theorem oY (L b a n:Nat):kC L b a (n+1)=kC L b a n++vR L a n b:=by
 unfold kC;rw[List.range_succ,List.flatMap_append];simp
theorem SQ (L d i:Nat){k m:Nat}(h:k<=m):wR L d i k<+:wR L d i m:=by
 induction m with
 |zero=>rw[Nat.le_zero.1 h];exact List.prefix_refl _
 |succ m ih=>
  by_cases e:k=m+1;·rw[e];exact List.prefix_refl _
  ·rw[rN];exact(ih (by omega)).trans (List.prefix_append _ _)
theorem S7 (L a d:Nat){k m:Nat}(h:k<=m):vR L a d k<+:vR L a d m:=by
 induction m with
 |zero=>rw[Nat.le_zero.1 h];exact List.prefix_refl _
 |succ m ih=>
  by_cases e:k=m+1;·rw[e];exact List.prefix_refl _
  ·rw[rC];exact(ih (by omega)).trans (List.prefix_append _ _)
theorem PF (L b a:Nat){k m:Nat}(h:k<=m):kC L b a k<+:kC L b a m:=by
 induction m with
 |zero=>rw[Nat.le_zero.1 h];exact List.prefix_refl _
 |succ m ih=>
  by_cases e:k=m+1;·rw[e];exact List.prefix_refl _
  ·rw[oY];exact(ih (by omega)).trans (List.prefix_append _ _)
theorem XB {L b a n d i k:Nat}(c:d<n)(e:i<b)(f:k<=a):kC L b a d++vR L a d i++wR L d i k<+:kC L b a n:=by
 refine List.IsPrefix.trans ?_ (PF L b a (Nat.succ_le_of_lt c));rw[oY,List.append_assoc];refine(List.prefix_append_right_inj _).2 ?_;refine List.IsPrefix.trans ?_ (S7 L a d (Nat.succ_le_of_lt e));rw[rC];exact(List.prefix_append_right_inj _).2 (SQ L d i f)
theorem AA (n:Nat)(Bx L:Nat)(x:Wx)(K:x.l=(L:Int))(hL2:L<=300)(I:x.Fit)(R:World->World->Prop)(M:∀W E,R W E->W.heap[Bx]?=some x.obj->E.heap[Bx]?=some x.obj)(w:World)(G:w.heap[Bx]?=some x.obj):
 SeqStopsK Fence.wide n Tryz.prog 263 #[.pointer (some ⟨Bx,0,none⟩)] (λc:WG L=>#[c.1.val]) R (λS=>S=kC L x.wl.length x.ll.length (L+1)) (λD=>D<+:kC L x.wl.length x.ll.length (L+1)) (kC L x.wl.length x.ll.length (L+1)).length w:=λlp J Jx W N hJ _ H F=>by
 have g:W.heap[Bx]?=some x.obj:=(N.block _ (bU G)).trans G;have O:W.cell? ⟨Bx,5,none⟩=some (.int .i64 (L:Int)):=by rw[←K];exact aJ g rfl
 have hwn:=I.wn;have hln:=I.ln;refine callsIn_of_wp Tryz.func263 rfl trivial ?_ rfl;simp only[Tryz.ntmps263,lsz,llc,lln,Nat.reduceAdd,Nat.reduceSub,ars,arz,lpt,lap,lna,lca];gi_wp2;clear O;gi_loopw [9] (λi wr=>∃d:Nat,d<=L+1/\i=.int .i64 d/\J (kC L x.wl.length x.ll.length d) wr/\wr.heap[Bx]?=some x.obj) (λi _=>L+1-(intOf i).toNat);case atStart=>exact⟨0,nz _,rfl,F,g⟩
 case round=>
  clear g F;obtain⟨d,hd,rfl,a,b⟩:=hrel;by_cases A:d<L+1
  ·have P:wr.cell? ⟨Bx,6,none⟩=some (.slice x.wa x.wl.length x.wc):=aJ b rfl;have q:(d:Int)<(L:Int)+1:=by omega
   gi_wp2;clear P;gi_loopw [15] (λi s=>∃m:Nat,m<=x.wl.length/\i=.int .i64 m/\J (kC L x.wl.length x.ll.length d++vR L x.ll.length d m) s/\s.heap[Bx]?=some x.obj) (λi _=>x.wl.length-(intOf i).toNat);case atStart=>exact⟨0,nz _,rfl,by simpa[vR]using a,b⟩
   case round=>
    clear a b;obtain⟨m,hm,rfl,a,b⟩:=hrel;by_cases B:m<x.wl.length
    ·have Q:wr.cell? ⟨Bx,7,none⟩=some (.slice x.la x.ll.length x.lc):=aJ b rfl;gi_wp2;clear Q;gi_loopw [21] (λi s=>∃k:Nat,k<=x.ll.length/\i=.int .i64 k/\J (kC L x.wl.length x.ll.length d++vR L x.ll.length d m++wR L d m k) s/\s.heap[Bx]?=some x.obj) (λi _=>x.ll.length-(intOf i).toNat);case atStart=>exact⟨0,nz _,rfl,by simpa[wR]using a,b⟩
     case round=>
      clear a b;obtain⟨k,hk,rfl,a,b⟩:=hrel;by_cases z:k<x.ll.length
      ·have f:kC L x.wl.length x.ll.length d++vR L x.ll.length d m++wR L d m k++[I2 L d m k]<+:kC L x.wl.length x.ll.length (L+1):=by
        rw[List.append_assoc _ (wR L d m k),←rN];exact XB A B z
       obtain⟨fn,tmps,assign,body,C,o⟩:=H _ (I2 L d m k) wr a (by have:=f.length_le;simp only[List.length_append,llc,lln]at this ⊢;omega);rw[yI m k (by omega)]at C;have t:=o;have HP:Hid _:=f;clear o H a f;gi_wp2_with fail;refine⟨λh=>(by cases h),?_⟩;refine RoundIn.mono t ?_;rintro e W3 (⟨rfl,u,y⟩|⟨rfl,j⟩)
       ·clear t C;gi_wp2;refine⟨⟨k+1,by omega,by go_num,?_,M _ _ y b⟩,by simp[intOf];omega⟩;rw[rN,←List.append_assoc];exact u
       ·clear t C;gi_wp2;refine bpr (results_none rfl _ _ _) rfl ?_;exact⟨⟨_,rfl⟩,.inr ⟨_,HP.oQ,j⟩⟩
      ·have p:k=x.ll.length:=by omega
       gi_wp2;refine⟨⟨m+1,by omega,by go_num,?_,b⟩,by simp[intOf];omega⟩;rw[rC,←List.append_assoc,←p];rw[←p]at a;exact a
    ·have r:m=x.wl.length:=by omega
     gi_wp2;refine⟨⟨d+1,by omega,by go_num,?_,b⟩,by simp[intOf];omega⟩;rw[oY,←r];rw[←r]at a;exact a
  ·have v:d=L+1:=by omega
   have q:¬(d:Int)<(L:Int)+1:=by omega
   gi_wp2;go_end0;exact⟨⟨_,rfl⟩,.inl (by rw[←v];exact a)⟩
end Go.Proofs.YtcdbcliaepcpfaaGreatDoor
