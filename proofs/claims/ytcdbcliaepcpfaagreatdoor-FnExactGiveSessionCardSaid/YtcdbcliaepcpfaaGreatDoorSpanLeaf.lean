import Derived.Test.YtcdbcliaepcpfaaGreatDoorLeaf
import Derived.Test.YtcdbcliaepcpfaaGreatDoorKeep
import Derived.Maps.AppendAt
import Derived.OwnWalk
namespace Go.Proofs.YtcdbcliaepcpfaaGreatDoor
set_option maxRecDepth 100000
set_option maxHeartbeats 800000
open Go.RowKit
def tI (s:Sp):Bool:=decide (s.hi<s.lo)
def jK (s:Sp)(n:Int):Bool:=decide (s.lo<=n/\n<=s.hi)
def kQ (s t:Sp):Bool:=decide (s.hi+1<t.lo)
def cP (s t:Sp):Sp:=⟨max s.lo t.lo,min s.hi t.hi⟩
def jP (s t:Sp):Sp:=⟨min s.lo t.lo,max s.hi t.hi⟩
def Sp.Small (s:Sp):Prop:=-1000000<=s.lo/\s.lo<=1000000/\-1000000<=s.hi/\s.hi<=1000000
theorem rM (s:Sp)(n:Int)(w:World):
 aY 152 #[s.val,.int .i64 n] w λe w'=>e=.returned (.bool (jK s n))/\aF w w':=by
 go_enter Tryz.func152,Tryz.ntmps152
 go_wp2
 all_goals go_ret
 all_goals refine⟨aD ?_,aB (br _ _) _⟩
 all_goals (rw[Bool.eq_iff_iff];simp only[jK,dte,Bool.false_eq_true,false_iff];omega)
theorem DI (s:Sp)(w:World):
 aY 214 #[s.val] w λe w'=>e=.returned (.bool (tI s))/\aF w w':=by
 go_enter Tryz.func214,Tryz.ntmps214
 go_wp2
 all_goals go_ret
 all_goals refine⟨aD ?_,aB (br _ _) _⟩
 all_goals rfl
theorem qX (s t:Sp)(w:World)(a:t.Small):
 aY 216 #[s.val,t.val] w λe w'=>e=.returned (.bool (kQ s t))/\aF w w':=by
 obtain⟨t1,t2,t3,t4⟩:=a
 go_enter Tryz.func216,Tryz.ntmps216
 go_wp2
 all_goals go_ret
 all_goals refine⟨aD ?_,aB (aB (br _ _) _) _⟩
 all_goals (rw[Bool.eq_iff_iff];simp only[kQ,dte,Bool.false_eq_true,false_iff];omega)
theorem yV (s t:Sp)(w:World):
 aY 217 #[s.val,t.val] w λe w'=>e=.returned (jP s t).val/\aF w w':=by
 go_enter Tryz.func217,Tryz.ntmps217
 go_wp2
 all_goals
  refine bpr (v:=(jP s t).val) ?_ rfl ⟨rfl,aB (aB (aB (br _ _) _) _) _⟩
  first|(rw[show jP s t=⟨t.lo,t.hi⟩from by simp only[jP,Sp.mk.injEq];omega])|(rw[show jP s t=⟨t.lo,s.hi⟩from by simp only[jP,Sp.mk.injEq];omega])|(rw[show jP s t=⟨s.lo,t.hi⟩from by simp only[jP,Sp.mk.injEq];omega])|(rw[show jP s t=⟨s.lo,s.hi⟩from by simp only[jP,Sp.mk.injEq];omega])
  simp[results,Tryz.results217,go_sem]
theorem BL (s t:Sp)(w:World):
 aY 156 #[s.val,t.val] w λe w'=>e=.returned (cP s t).val/\aF w w':=by
 go_enter Tryz.func156,Tryz.ntmps156
 go_wp2
 all_goals
  refine bpr (v:=(cP s t).val) ?_ rfl ⟨rfl,aB (aB (aB (br _ _) _) _) _⟩
  first|(rw[show cP s t=⟨t.lo,t.hi⟩from by simp only[cP,Sp.mk.injEq];omega])|(rw[show cP s t=⟨t.lo,s.hi⟩from by simp only[cP,Sp.mk.injEq];omega])|(rw[show cP s t=⟨s.lo,t.hi⟩from by simp only[cP,Sp.mk.injEq];omega])|(rw[show cP s t=⟨s.lo,s.hi⟩from by simp only[cP,Sp.mk.injEq];omega])
  simp[results,Tryz.results156,go_sem]
theorem m9 (n:Int)(w:World):
 aY 111 #[.int .i64 n] w λe w'=>e=.returned (Sp.val ⟨0,n⟩)/\aF w w':=by
 go_enter Tryz.func111,Tryz.ntmps111;go_wp2;refine bpr (v:=Sp.val ⟨0,n⟩) ?_ rfl ⟨rfl,aB (br _ _) _⟩;simp[results,Tryz.results111,go_sem]
abbrev Bx.obj (b:Bx):Obj:=.cells #[.int .i64 b.x,.int .i64 b.y,.int .i64 b.lo,.int .i64 b.hi,.int .i64 b.i,.int .i64 b.o] 56
theorem bD {w:World}{z j:Nat}{a:Array Value}{t:TypeId}{v:Value}(h:w.heap[z]?=some (.cells a t))(b:a[j]?=some v):w.cell? ⟨z,j,none⟩=some v:=by simp[World.cell?,h,b]
theorem BA {w:World}{z:Nat}{b:Bx}(h:w.heap[z]?=some b.obj):fL w z 0 b:=⟨bD h rfl,bD h rfl,bD h rfl,bD h rfl,bD h rfl,bD h rfl⟩
theorem wO {w:World}{z:Nat}{t:TypeId}{u v:Value}(h:w.heap[z]?=some (.cells #[u,v] t)):w.rowIs z t 2 (λi=>if i=0 then u else v):=
 ⟨#[u,v],h,rfl,λi a=>by match i,a with|0,_=>rfl|1,_=>rfl⟩
theorem mO {w:World}{z:Nat}{t:TypeId}{f:Nat->Value}(h:w.rowIs z t 2 f):w.cell? ⟨z,0,none⟩=some (f 0)/\w.cell? ⟨z,1,none⟩=some (f 1):=⟨h.cell (by omega),h.cell (by omega)⟩
def gV (m o:Bx):Sp:=if jS m o&&lL m o then⟨o.i-m.o,o.o-m.i⟩else⟨1,0⟩
theorem KB (m o:Bx)(w:World)(M:aK m=true)(N:aK o=true):
 aY 159 #[m.val,o.val] w λe w'=>e=.returned (gV m o).val/\aF w w':=by
 obtain⟨V,E⟩:∃v,jS m o=v:=⟨_,rfl⟩;obtain⟨W,H⟩:∃v,lL m o=v:=⟨_,rfl⟩;have J:0<=m.i/\m.i<=10000/\0<=m.o/\m.o<=10000:=by simp only[aK,dte]at M;omega
 have K:0<=o.i/\o.i<=10000/\0<=o.o/\o.o<=10000:=by simp only[aK,dte]at N;omega
 obtain⟨m1,m2,m3,m4⟩:=J;obtain⟨o1,o2,o3,o4⟩:=K;obtain⟨S,I⟩:=bP (gV m o);rw[←I];have F:=aG I;clear I;have k:=(halq ((w.alloc m.obj).alloc o.obj) (.cells #[.int .i64 0,.int .i64 0] 152) w.heap.size (by simp;omega)).trans ((halq (w.alloc m.obj) o.obj w.heap.size (by simp)).trans (wnq w m.obj));have d:=wnq (w.alloc m.obj) o.obj;rw[wsa]at d;have n:=(halq ((w.alloc m.obj).alloc o.obj) (.cells #[.int .i64 0,.int .i64 0] 152) (w.heap.size+1) (by simp)).trans d;clear d;have g:=wnq ((w.alloc m.obj).alloc o.obj) (.cells #[.int .i64 0,.int .i64 0] 152);rw[wsa,wsa]at g;have f:aF w (((w.alloc m.obj).alloc o.obj).alloc (.cells #[.int .i64 0,.int .i64 0] 152)):=aB (aB (aB (br _ _) _) _) _;go_enter Tryz.func159,Tryz.ntmps159;go_wp2_with fail;obtain⟨W0,h⟩:=cK (((w.alloc m.obj).alloc o.obj).alloc (.cells #[.int .i64 0,.int .i64 0] 152));rw[h]at k n g f ⊢;clear h;refine(kG m o _).mono ?_;rintro e w1 ⟨rfl,a⟩;rw[E];have l:=(a.block _ (bU k)).trans k;have q:=(a.block _ (bU n)).trans n;have C1:=(a.block _ (bU g)).trans g;have G:=aC f a;clear k n g f a;cases V with
 |false=>
  have c:=wO C1;have R:=c.cell (i:=0) (by omega);have T:=c.cell (i:=1) (by omega);have U:=λi=>c.frozen i;go_wp2;refine bpr (v:=S.val) ?_ rfl ⟨rfl,(G.setCell (p:=⟨w.heap.size+1+1,0,none⟩) (by show w.heap.size<=w.heap.size+1+1;omega) _).setCell (p:=⟨w.heap.size+1+1,1,none⟩) (by show w.heap.size<=w.heap.size+1+1;omega) _⟩;rw[F.oQ,gV,E];have j:=mO ((c.set 0 (.int .i64 1)).set 1 (.int .i64 0));simp[results,Tryz.results159,go_sem,j]
 |true=>
 have r:=BA l;have z:=BA q;obtain⟨r,s,t,u,x,y⟩:=r;obtain⟨z,b1,A,B,C,D⟩:=z;rw[Nat.zero_add]at s t u x y b1 A B C D;go_wp2_with fail;refine(sD m o _ M N).mono ?_;rintro e w2 ⟨rfl,b⟩;rw[H];have O:=(b.block _ (bU l)).trans l;have P:=(b.block _ (bU q)).trans q;have Q:=(b.block _ (bU C1)).trans C1;have L:=aC G b;clear r s t u x y z b1 A B C D l q C1 G b;have c:=wO Q;have R:=c.cell (i:=0) (by omega);have T:=c.cell (i:=1) (by omega);have U:=λi=>c.frozen i;cases W with
 |false=>
  go_wp2;refine bpr (v:=S.val) ?_ rfl ⟨rfl,(L.setCell (p:=⟨w.heap.size+1+1,0,none⟩) (by show w.heap.size<=w.heap.size+1+1;omega) _).setCell (p:=⟨w.heap.size+1+1,1,none⟩) (by show w.heap.size<=w.heap.size+1+1;omega) _⟩;rw[F.oQ,gV,E,H];have j:=mO ((c.set 0 (.int .i64 1)).set 1 (.int .i64 0));simp[results,Tryz.results159,go_sem,j]
 |true=>
  obtain⟨r,s,t,u,x,y⟩:=BA O;obtain⟨z,b1,A,B,C,D⟩:=BA P;rw[Nat.zero_add]at s t u x y b1 A B C D;go_wp2;refine bpr (v:=S.val) ?_ rfl ⟨rfl,(L.setCell (p:=⟨w.heap.size+1+1,0,none⟩) (by show w.heap.size<=w.heap.size+1+1;omega) _).setCell (p:=⟨w.heap.size+1+1,1,none⟩) (by show w.heap.size<=w.heap.size+1+1;omega) _⟩;rw[F.oQ,gV,E,H];have j:=mO ((c.set 0 (.int .i64 (o.i-m.o))).set 1 (.int .i64 (o.o-m.i)));simp[results,Tryz.results159,go_sem,j]
def V6 (e:Ending):Prop:=∃v:Bool,e=.returned (.bool v)
def YL (e:Ending):Prop:=∃s:Sp,e=.returned s.val
theorem MV (a b:Int)(w:World):
 aY 252 #[.int .i64 a,.int .i64 b] w λe w'=>(∃r,e=.returned (.int .i64 r))/\w'=w:=by
 go_enter Tryz.func252,Tryz.ntmps252
 go_wp2
 all_goals go_ret
 all_goals exact⟨⟨_,rfl⟩,rfl⟩
theorem AI (a b:Bx)(w:World):
 aY 221 #[a.val,b.val] w λe w'=>V6 e/\aF w w':=by
 go_enter Tryz.func221,Tryz.ntmps221
 go_wp2_with (go_at_call 252;refine(MV _ _ _).mono ?_;rintro e w' ⟨⟨r,rfl⟩,rfl⟩)
 all_goals go_ret
 all_goals exact⟨⟨_,rfl⟩,((br _ _).alloc (nlq _) _).alloc (by simp) _⟩
theorem FZ (m o:Bx)(w:World):
 aY 159 #[m.val,o.val] w λe w'=>YL e/\aF w w':=by
 obtain⟨N,J⟩:∃v,jS m o=v:=⟨_,rfl⟩;have k:=(halq ((w.alloc m.obj).alloc o.obj) (.cells #[.int .i64 0,.int .i64 0] 152) w.heap.size (by simp;omega)).trans ((halq (w.alloc m.obj) o.obj w.heap.size (by simp)).trans (wnq w m.obj));have d:=wnq (w.alloc m.obj) o.obj;rw[wsa]at d;have n:=(halq ((w.alloc m.obj).alloc o.obj) (.cells #[.int .i64 0,.int .i64 0] 152) (w.heap.size+1) (by simp)).trans d;clear d;have g:=wnq ((w.alloc m.obj).alloc o.obj) (.cells #[.int .i64 0,.int .i64 0] 152);rw[wsa,wsa]at g;have f:aF w (((w.alloc m.obj).alloc o.obj).alloc (.cells #[.int .i64 0,.int .i64 0] 152)):=aB (aB (aB (br _ _) _) _) _;go_enter Tryz.func159,Tryz.ntmps159;go_wp2_with fail;obtain⟨W0,h⟩:=cK (((w.alloc m.obj).alloc o.obj).alloc (.cells #[.int .i64 0,.int .i64 0] 152));rw[h]at k n g f ⊢;clear h;refine(kG m o _).mono ?_;rintro e w1 ⟨rfl,a⟩;rw[J];have l:=(a.block _ (bU k)).trans k;have q:=(a.block _ (bU n)).trans n;have C1:=(a.block _ (bU g)).trans g;have E:=aC f a;clear k n g f a;cases N with
 |false=>
  have c:=wO C1;have K:=c.cell (i:=0) (by omega);have L:=c.cell (i:=1) (by omega);have M:=λi=>c.frozen i;go_wp2;refine bpr (v:=Sp.val ⟨1,0⟩) ?_ rfl ⟨⟨_,rfl⟩,(E.setCell (p:=⟨w.heap.size+1+1,0,none⟩) (by show w.heap.size<=w.heap.size+1+1;omega) _).setCell (p:=⟨w.heap.size+1+1,1,none⟩) (by show w.heap.size<=w.heap.size+1+1;omega) _⟩;have j:=mO ((c.set 0 (.int .i64 1)).set 1 (.int .i64 0));simp[results,Tryz.results159,go_sem,j]
 |true=>
 have r:=BA l;have z:=BA q;obtain⟨r,s,t,u,x,y⟩:=r;obtain⟨z,b1,A,B,C,D⟩:=z;rw[Nat.zero_add]at s t u x y b1 A B C D;go_wp2_with fail;refine(AI m o _).mono ?_;rintro e w2 ⟨⟨O,rfl⟩,b⟩;have G:=(b.block _ (bU l)).trans l;have H:=(b.block _ (bU q)).trans q;have I:=(b.block _ (bU C1)).trans C1;have F:=aC E b;clear r s t u x y z b1 A B C D l q C1 E b;have c:=wO I;have K:=c.cell (i:=0) (by omega);have L:=c.cell (i:=1) (by omega);have M:=λi=>c.frozen i;cases O with
 |false=>
  go_wp2;refine bpr (v:=Sp.val ⟨1,0⟩) ?_ rfl ⟨⟨_,rfl⟩,(F.setCell (p:=⟨w.heap.size+1+1,0,none⟩) (by show w.heap.size<=w.heap.size+1+1;omega) _).setCell (p:=⟨w.heap.size+1+1,1,none⟩) (by show w.heap.size<=w.heap.size+1+1;omega) _⟩;have j:=mO ((c.set 0 (.int .i64 1)).set 1 (.int .i64 0));simp[results,Tryz.results159,go_sem,j]
 |true=>
  obtain⟨r,s,t,u,x,y⟩:=BA G;obtain⟨z,b1,A,B,C,D⟩:=BA H;rw[Nat.zero_add]at s t u x y b1 A B C D;go_wp2;refine bpr (v:=Sp.val ⟨wrap64 (o.i-m.o),wrap64 (o.o-m.i)⟩) ?_ rfl ⟨⟨_,rfl⟩,(F.setCell (p:=⟨w.heap.size+1+1,0,none⟩) (by show w.heap.size<=w.heap.size+1+1;omega) _).setCell (p:=⟨w.heap.size+1+1,1,none⟩) (by show w.heap.size<=w.heap.size+1+1;omega) _⟩;have j:=mO ((c.set 0 (.int .i64 (wrap64 (o.i-m.o)))).set 1 (.int .i64 (wrap64 (o.o-m.i))));simp[results,Tryz.results159,go_sem,j]
set_option maxHeartbeats 1000000
theorem Tryz.info152:(Tryz.prog.info? 152).map (λi=>(i.zero,i.size,i.bytes))=some (some (.agg #[.int .i64 0,.int .i64 0]),2,16):=by kernel_rfl
def dO:List Sp->List Value
 |[]=>[]
 |s::r=>s.cells++dO r
theorem dG:∀(l r:List Sp),dO (l++r)=dO l++dO r
 |[],r=>rfl
 |a::l,r=>by simp[dO,dG l r]
theorem g9:∀(l:List Sp),(dO l).length=l.length*2
 |[]=>rfl
 |a::r=>by rw[dO,List.length_append,g9 r];simp[Sp.cells];omega
theorem vK:∀(l:List Sp) (i:Nat) (h:i<l.length) (j:Nat),j<2->(dO l)[i*2+j]?=(l[i].cells)[j]?
 |[],i,h,j,hj=>by simp at h
 |a::r,0,h,j,hj=>by
  rw[dO,List.getElem?_append_left (by simp[Sp.cells];omega)];simp
 |a::r,i+1,h,j,hj=>by
  have h':i<r.length:=by simpa using h
  rw[dO,List.getElem?_append_right (by simp[Sp.cells];omega)];have e:(i+1)*2+j-a.cells.length=i*2+j:=by simp[Sp.cells];omega
  rw[e,vK r i h' j hj];rfl
theorem D2 (l:List Sp):∀u∈dO l,u.oneCell'=true:=by
 induction l with
 |nil=>simp[dO]
 |cons a r ih=>
  intro u b;rcases lma.1 b with h|h;·simp[Sp.cells]at h;rcases h with rfl|rfl<;>rfl
  ·exact ih u h
theorem SG {W a:World}(h:aF W a):W.grownBy a none:=⟨h.os,h.tape,h.output,h.size,λk b _=>h.block k b⟩
theorem eO {w w':World}{base:Nat}{e:TypeId}{size:Nat}{v:Value}{n:Nat}{xs:List Value}(h:w.ownsRow base e size v n xs)(a:aF w w'):w'.ownsRow base e size v n xs:=
 h.kept (SG a) (by cases v.ownBlock<;>simp)
theorem XN {w:World}{base:Nat}{v:Value}{l:List Sp}(h:w.ownsRow base 152 2 v l.length (dO l)):∃e a,v=.slice e l.length a/\Xs 2 Sp.cells w e l/\l.length<=a:=by
 rcases h.2 with⟨b,i⟩|⟨g,a,cur,b,hb,hg,d,_,hs,ht⟩;·exact⟨none,0,by rw[b,i],Or.inl (List.eq_nil_of_length_eq_zero i),by omega⟩
 ·refine⟨some ⟨g,0,none⟩,a,b,Or.inr ⟨g,0,rfl,λk m j u f=>?_⟩,d⟩;have c:j<2:=(lgs.1 f).1;have:=h.cells (g:=g) (by rw[b];rfl) (k*2+j) u (by rw[vK l k m j c];exact f);rw[Addr.add_lit,Nat.zero_add]at this;rw[Nat.zero_add];exact this
theorem DW {w:World}{a o:Nat}{s:Sp}(h:aZ w a o s.cells):w.cell? ⟨a,o,none⟩=some (.int .i64 s.lo)/\w.cell? ⟨a,o+1,none⟩=some (.int .i64 s.hi):=⟨h 0 _ rfl,h 1 _ rfl⟩
abbrev Sp.obj (s:Sp):Obj:=.cells #[.int .i64 s.lo,.int .i64 s.hi] 152
def jT (l:List Sp)(m:Sp):Bool:=l.any λs=>jK s m.lo&&jK s m.hi
theorem vN (W:World)(g:Nat)(b:g=W.heap.size)(s:Sp):∀j u,(s.cells)[j]?=some u->(W.alloc s.obj).cell? ((⟨g,0,none⟩:Addr).add j)=some u:=by
 subst b;intro j u a;match j,a with
 |0,a=>simp[Sp.cells]at a;subst a;simp[Addr.add]
 |1,a=>simp[Sp.cells]at a;subst a;simp[Addr.add]
 |n+2,a=>simp[Sp.cells]at a
theorem rS (l:List Sp)(m:Sp)(M:Option Addr)(z:Nat)(w:World)(T:Xs 2 Sp.cells w M l)(hn:l.length<=1048576):
 aY 215 #[.slice M l.length z,m.val] w λe w'=>e=.returned (.bool (jT l m))/\aF w w':=by
 obtain⟨V,D⟩:=bP (jT l m);rw[←D];have K:=aG D;clear D;have x:=wnq w m.obj;have a:aF w (w.alloc m.obj):=aB (br _ _) _
 go_enter Tryz.func215,Tryz.ntmps215
 go_wp2
 obtain⟨Q,q⟩:=cK (w.alloc m.obj);rw[q]at x a ⊢;clear q
 go_loopw [9] (λi wr=>∃k:Nat,k<=l.length/\i=.int .i64 k/\aF Q wr/\Hid (jT (l.take k) m=false)) (λi _=>l.length-(intOf i).toNat)
 case atStart=>exact⟨0,nz _,rfl,br _ _,by simp[Hid,jT]⟩
 case round=>
  obtain⟨k,hk,rfl,B,g⟩:=hrel;have O:aF w wr:=a.trans (B.mono a.size);have n:=(B.block _ (bU x)).trans x
  by_cases d:k<l.length
  ·rcases T with h|⟨R,off,rfl,P⟩
   ·subst h;simp at d
   have f:=(P k d).zL O;obtain⟨s,j⟩:=bP (l[k]);rw[←j]at f;have I:=aG j;clear j P;obtain⟨N,S⟩:=DW f;have hbz:R<wr.heap.size:=aA N;have hwz:w.heap.size<wr.heap.size:=(bU n);have F:wr.cell? ⟨w.heap.size,0,none⟩=some (.int .i64 m.lo):=bD n rfl;have G:wr.cell? ⟨w.heap.size,1,none⟩=some (.int .i64 m.hi):=bD n rfl;have c:jT (l.take (k+1)) m=(jT (l.take k) m||(jK s m.lo&&jK s m.hi)):=by rw[jT,gQ _ l k d,←I.oQ];rfl
   have J:=aG c;clear c f;obtain⟨X,t⟩:∃v,jK s m.lo=v:=⟨_,rfl⟩;obtain⟨Y,A⟩:∃v,jK s m.hi=v:=⟨_,rfl⟩;have y:=wnq wr s.obj;have r:aF wr (wr.alloc s.obj):=aB (br _ _) _;go_wp2_with fail
   refine(rM s m.lo _).mono ?_;rintro e u ⟨rfl,b⟩;rw[t];have L:=(b.block _ (bU y)).trans y;have b:=aC r b;have H:=(b.block _ (bU n)).trans n;have o:=bL B (nlq _) b;clear N S F G y r n
   cases X with
   |false=>
    go_wp2
    go_roundw
    case rel=>exact⟨k+1,by omega,by go_num,o,by rw[Hid,J.oQ,g.out,t];rfl⟩
    case measure=>simp[intOf];omega
   |true=>
   have U:u.cell? ⟨wr.heap.size,0,none⟩=some (.int .i64 s.lo):=bD L rfl;have W:u.cell? ⟨wr.heap.size,1,none⟩=some (.int .i64 s.hi):=bD L rfl;have F:u.cell? ⟨w.heap.size,0,none⟩=some (.int .i64 m.lo):=bD H rfl;have G:u.cell? ⟨w.heap.size,1,none⟩=some (.int .i64 m.hi):=bD H rfl;go_wp2_with fail
   refine(rM s m.hi _).mono ?_;rintro e Z ⟨rfl,E⟩;rw[A];have p:=bL o (nlq _) E;have C:aF w Z:=a.trans (p.mono a.size);clear U W F G
   cases Y with
   |false=>
    go_wp2
    go_roundw
    case rel=>exact⟨k+1,by omega,by go_num,p,by rw[Hid,J.oQ,g.out,t,A];rfl⟩
    case measure=>simp[intOf];omega
   |true=>
    go_wp2
    go_ret;exact⟨aD (by rw[K.oQ,jT,gI _ l k d (by rw[←I.oQ,t,A];rfl)]),C⟩
  ·go_wp2
   go_ret;exact⟨aD (by rw[K.oQ];have:=g.out;rw[ltl (by omega)]at this;exact this.symm),O⟩
def GP (w:World)(ao:Option Addr)(l:List Sp):Prop:=Xs 2 Sp.cells w ao l/\(l=[]∨∃bl off cs,ao=some ⟨bl,off,none⟩/\w.heap[bl]?=some (.cells cs 152))
theorem GP.zL {w w':World}{b:Option Addr}{l:List Sp}(h:GP w b l)(c:aF w w'):GP w' b l:=by
 refine⟨h.1.zL c,?_⟩;rcases h.2 with e|⟨f,a,g,e,d⟩;·exact .inl e
 ·exact .inr ⟨f,a,g,e,(c.block _ (bU d)).trans d⟩
theorem OC {w:World}{base:Nat}{v:Value}{l:List Sp}(h:w.ownsRow base 152 2 v l.length (dO l)):∃c a,v=.slice c l.length a/\GP w c l:=by
 have f:=h.2;obtain⟨c,a,e,hx,_⟩:=XN h;refine⟨c,a,e,hx,?_⟩;rcases f with⟨_,j⟩|⟨g,cap',d,b,_,i,_⟩;·exact .inl (List.eq_nil_of_length_eq_zero j)
 ·rw[e]at b;cases b;exact .inr ⟨g,0,d,rfl,i⟩
set_option maxHeartbeats 4000000
structure nF (z:Nat)(va vb:Value)(A B:List Sp)(m:Sp)(w:World):Prop where
 ra:w.ownsRow (z+1) 152 2 va A.length (dO A)
 rb:w.ownsRow (z+1) 152 2 vb B.length (dO B)
 ne:vb.ownBlock=none∨vb.ownBlock≠va.ownBlock
 nb:B=[]->vb=.slice none 0 0
 bx:∃f,w.rowIs z 152 2 f/\f 0=.int .i64 m.lo/\f 1=.int .i64 m.hi
theorem nF.zL {z:Nat}{c d:Value}{A B:List Sp}{m:Sp}{w w':World}(h:nF z c d A B m w)(a:aF w w'):nF z c d A B m w':=
 ⟨eO h.ra a,eO h.rb a,h.ne,h.nb,by obtain⟨f,b,e,g⟩:=h.bx;exact⟨f,b.of_block (a.block _ b.lt),e,g⟩⟩
theorem nF.grownA {z:Nat}{d g a:Value}{A B b:List Sp}{m:Sp}{w w':World}(h:nF z d g A B m w)(p:w'.ownsRow (z+1) 152 2 a b.length (dO b))(i:w.grownBy w' d.ownBlock)(c:a.ownBlock=d.ownBlock∨a.ownBlock=some w.heap.size):nF z a g b B m w':=by
 refine⟨p,h.rb.kept i h.ne,?_,h.nb,by obtain⟨f,j,n,o⟩:=h.bx;exact⟨f,j.of_block (i.block _ j.lt (λe=>by have:=(h.ra.lt _ e.symm).1;omega)),n,o⟩⟩;rcases c with e|e;·rw[e];exact h.ne
 ·cases hv:g.ownBlock with
  |none=>exact .inl rfl
  |some k=>right;rw[e];intro l;have:=(h.rb.lt _ hv).2;cases l;omega
theorem nF.grownB {z:Nat}{g i c:Value}{A B b:List Sp}{m:Sp}{w w':World}(h:nF z g i A B m w)(q:w'.ownsRow (z+1) 152 2 c b.length (dO b))(j:w.grownBy w' i.ownBlock)(d:c.ownBlock=i.ownBlock∨c.ownBlock=some w.heap.size)(p:b≠[]):nF z g c A b m w':=by
 refine⟨h.ra.kept j ?_,q,?_,λe=>absurd e p,by obtain⟨f,l,n,o⟩:=h.bx;exact⟨f,l.of_block (j.block _ l.lt (λe=>by have:=(h.rb.lt _ e.symm).1;omega)),n,o⟩⟩
 ·rcases h.ne with e|e
  ·cases hv:g.ownBlock with
   |none=>exact .inl rfl
   |some k=>right;rw[e];intro a;cases a
  ·exact .inr (λa=>e a.symm)
 ·rcases d with e|e;·rw[e];exact h.ne
  ·right;rw[e];intro a;have:=(h.ra.lt _ a.symm).2;omega
theorem CM (W:World)(b j:Nat)(u:Value):W.grownBy (W.setCell ⟨b,j,none⟩ u) (some b):=
 ⟨rfl,rfl,rfl,by show W.heap.size<=(W.heap.modify _ _).size;rw[Array.size_modify];exact nlq _,λk _ a=>Below.heap_setCell W _ u k (λe=>a (by rw[e]))⟩
theorem yT {w:World}{base:Nat}{e:TypeId}{size:Nat}{v:Value}{n:Nat}{xs:List Value}(h:w.ownsRow base e size v n xs){b:Nat}(hb:b<base)(j:Nat)(u:Value):(w.setCell ⟨b,j,none⟩ u).ownsRow base e size v n xs:=
 h.kept (CM w b j u) (by cases a:v.ownBlock with|none=>exact .inl rfl|some k=>right;intro e;have:=(h.lt k a).1;cases e;omega)
theorem nF.setBox {z:Nat}{a b:Value}{A B:List Sp}{m:Sp}{w:World}(h:nF z a b A B m w)(s:Sp):nF z a b A B s ((w.setCell ⟨z,0,none⟩ (.int .i64 s.lo)).setCell ⟨z,1,none⟩ (.int .i64 s.hi)):=by
 obtain⟨f,c,h0,h1⟩:=h.bx;exact⟨yT (yT h.ra (by omega) _ _) (by omega) _ _,yT (yT h.rb (by omega) _ _) (by omega) _ _,h.ne,h.nb,_,(c.set _ _).set _ _,by simp,by simp⟩
theorem nF.cells {z:Nat}{d e:Value}{A B:List Sp}{m:Sp}{w:World}(h:nF z d e A B m w):w.cell? ⟨z,0,none⟩=some (.int .i64 m.lo)/\w.cell? ⟨z,1,none⟩=some (.int .i64 m.hi):=by
 obtain⟨f,a,b,c⟩:=h.bx;exact⟨by rw[a.cell (by omega),b],by rw[a.cell (by omega),c]⟩
theorem eV {z:Nat}{w W b:World}{a:Option Nat}(h:Below z w W)(e:z<=w.heap.size)(c:W.grownBy b a)(d:∀k,a=some k->z<=k):Below z w b:=
 h.grown c (Nat.le_trans e h.size) d
theorem TA (r:Int)(zh:r<=300)(l:List Sp)(m:Sp)(ao:Option Addr)(M:Nat)(w:World)(zg:GP w ao l)(O:uY r l)(zr:0<=m.lo)(zs:m.hi<=r):
 aY 154 #[.slice ao l.length M,m.val] w λe w'=>(∃D t R,e=.returned (.slice D R.length t)/\GP w' D R/\uY r R/\∀n,gS R n↔(gS l n∨(m.lo<=n/\n<=m.hi)))/\aF w w':=by
 have hl:=zg.1;have HL:=aG zg;clear zg;obtain⟨i0,hi,P,K,Q⟩:=info_parts Tryz.info152;have hn:l.length<=301:=O.len zh;have A0:=wnq w m.obj;have zn:aF w (w.alloc m.obj):=aB (br _ _) _;obtain⟨v1,h1⟩:∃v,tI m=v:=⟨_,rfl⟩;obtain⟨v2,h2⟩:∃v,jT l m=v:=⟨_,rfl⟩
 go_enter Tryz.func154,Tryz.ntmps154
 go_wp2_with fail
 refine(DI m _).mono ?_;rintro e w1 ⟨rfl,zb⟩;rw[h1];have A1:=(zb.block _ (bU A0)).trans A0;have N1:=aC zn zb;clear zb zn A0
 cases v1 with
 |true=>
  go_wp2
  go_ret;exact⟨⟨ao,M,l,rfl,HL.oQ.zL N1,O,λn=>⟨.inl,λh=>h.elim id (λg=>by simp only[tI,dte]at h1;omega)⟩⟩,N1⟩
 |false=>
 have zz:m.lo<=m.hi:=by simp only[tI,decide_eq_false_iff_not]at h1;omega
 have S:w1.cell? ⟨w.heap.size,0,none⟩=some (.int .i64 m.lo):=bD A1 rfl;have T:w1.cell? ⟨w.heap.size,1,none⟩=some (.int .i64 m.hi):=bD A1 rfl;go_wp2_with fail
 refine(rS l m ao M _ (hl.zL N1) (by omega)).mono ?_;rintro e w2 ⟨rfl,zc⟩;rw[h2];have A2:=(zc.block _ (bU A1)).trans A1;have N2:=aC N1 zc;clear zc N1 A1 S T
 cases v2 with
 |true=>
  go_wp2
  go_ret;refine⟨⟨ao,M,l,rfl,HL.oQ.zL N2,O,λn=>⟨.inl,λh=>h.elim id (λg=>?_)⟩⟩,N2⟩;obtain⟨s,hs,hh⟩:=List.any_eq_true.1 h2;simp only[jK,bat,dte]at hh;exact⟨s,hs,by omega,by omega⟩
 |false=>
 have zw:w.heap.size<w2.heap.size:=(bU A2);clear h1 h2;go_wp2
 go_loopw [5,6,19] (λva vb i wr=>∃(k:Nat) (A B:List Sp) (o:Sp),k<=l.length/\i=.int .i64 k/\nF w.heap.size va vb A B o wr/\aF w wr/\Hid (pQ m (l.take k) A B o)) (λ_ _ i _=>l.length-(intOf i).toNat)
 case atStart=>exact⟨0,[],[],m,nz _,rfl,⟨World.ownsRow_nil _ _ _ _,World.ownsRow_nil _ _ _ _,.inl rfl,λ_=>rfl,_,wO A2,rfl,rfl⟩,N2,by rw[Hid,List.take_zero];exact AC m zz⟩
 case round=>
  clear A2 N2 zw;obtain⟨k,A,B,o,hk,rfl,I,hN,L⟩:=hrel;have hlen:=L.out.ln;have hlk:(l.take k).length<=k:=List.length_take_le _ _;have hin:=L.out.inb 0 r zr zs (λs hs=>O.b s (List.mem_of_mem_take hs));have hm'n:=L.out.ne;have zq:o.Small:=⟨by omega,by omega,by omega,by omega⟩
  by_cases J:k<l.length
  ·rcases hl with h|⟨bl,off,rfl,hc⟩
   ·subst h;simp at J
   have ze:=(hc k J).zL hN;have yb:=O.b l[k] (lgm J);have yc:=O.c.ne l[k] (lgm J);obtain⟨s,zi⟩:=bP (l[k]);rw[←zi]at ze yb yc;have yd:s.Small:=⟨by omega,by omega,by omega,by omega⟩;have HT:Hid (l.take (k+1)=l.take k++[s]):=by rw[Hid,List.take_succ_eq_append_getElem J,zi]
   have U:jZ (l.take k++[s]):=by
    rw[←HT.oQ];exact⟨λx hx=>O.c.ne x (List.mem_of_mem_take hx),O.c.sep.sublist (List.take_sublist _ _)⟩
   have HC:=aG U;clear zi hc U;obtain⟨c0,c1⟩:=DW ze;clear ze;have zx:bl<wr.heap.size:=aA c0;have zu:w.heap.size<wr.heap.size:=aA I.cells.1;have S:wr.cell? ⟨w.heap.size,0,none⟩=some (.int .i64 o.lo):=I.cells.1;have T:wr.cell? ⟨w.heap.size,1,none⟩=some (.int .i64 o.hi):=I.cells.2;have S0:=wnq wr s.obj;have zo:aF wr (wr.alloc s.obj):=aB (br _ _) _;obtain⟨u1,g1⟩:∃v,kQ s o=v:=⟨_,rfl⟩;obtain⟨u2,g2⟩:∃v,kQ o s=v:=⟨_,rfl⟩;go_wp2_with fail
   refine(qX s o _ zq).mono ?_;rintro e w3 ⟨rfl,C⟩;rw[g1];have Z:=(C.block _ (bU S0)).trans S0;have C:=aC zo C;have y:=I.zL C;have N3:=aC hN C;have hbz3:=Nat.lt_of_lt_of_le zx C.size;have zv:=Nat.lt_of_lt_of_le zu C.size;have ya:wr.heap.size<w3.heap.size:=(bU Z);clear c0 c1 S T S0 zo I hN;have s0:w3.cell? ⟨wr.heap.size,0,none⟩=some (.int .i64 s.lo):=bD Z rfl;have s1:w3.cell? ⟨wr.heap.size,1,none⟩=some (.int .i64 s.hi):=bD Z rfl
   cases u1 with
   |true=>
    have zt:s.hi+1<o.lo:=by simpa[kQ]using g1
    go_wp2_with (at_builtin;refine wpList_append_own_at _ rfl (.tmp 30) (.tmp 32) 150 rfl (w.heap.size+1) 152 i0 _ 2 16 Tryz.underlying150 hi P K Q rfl (by decide) _ _ _ rfl (y.ra.alloc _) ⟨w3.heap.size,0,none⟩ 1 1 s.cells rfl rfl ?qc1 ?qc2 ?qc3 ?qc4 ?qc5 ?_)
    case qc1=>first|exact λ_ _ h=>h|exact vN _ _ rfl s
    case qc2=>intro u X;simp[Sp.cells]at X;rcases X with rfl|rfl<;>rfl
    case qc3=>unfold maxLen;omega
    case qc4=>omega
    case qc5=>simp;omega
    intro v' H j a _ z;have d:nF w.heap.size v' u6 (A++[s]) B o H:=(y.zL (aB (br _ _) s.obj)).grownA (by rw[dG,List.length_append];simpa[dO]using j) a (by simpa using z);have G:aF w H:=eV (aB N3 s.obj) (nlq _) a (λk e=>by have:=(y.ra.lt k e).1;omega);clear a j z y N3 Z s0 s1;go_wp2
    go_roundw
    case rel=>exact⟨k+1,A++[s],B,o,by omega,by go_num,d,G,by rw[Hid,HT.oQ];exact L.out.ahead HC.oQ zt⟩
    case measure=>simp[intOf];omega
   |false=>
   have zt:¬s.hi+1<o.lo:=by simpa[kQ]using g1
   have S:w3.cell? ⟨w.heap.size,0,none⟩=some (.int .i64 o.lo):=y.cells.1;have T:w3.cell? ⟨w.heap.size,1,none⟩=some (.int .i64 o.hi):=y.cells.2;go_wp2_with fail
   refine(qX o s _ yd).mono ?_;rintro e H ⟨rfl,F⟩;rw[g2];have S4:=(F.block _ (bU Z)).trans Z;have d:=y.zL F;have G:=aC N3 F;have hwz4:=Nat.lt_of_lt_of_le zv F.size;have hrz4:=Nat.lt_of_lt_of_le ya F.size;clear s0 s1 S T y N3 Z C F;have s0:H.cell? ⟨wr.heap.size,0,none⟩=some (.int .i64 s.lo):=bD S4 rfl;have s1:H.cell? ⟨wr.heap.size,1,none⟩=some (.int .i64 s.hi):=bD S4 rfl
   cases u2 with
   |true=>
    have V:o.hi+1<s.lo:=by simpa[kQ]using g2
    go_wp2_with (at_builtin;refine wpList_append_own_at _ rfl (.tmp 38) (.tmp 40) 150 rfl (w.heap.size+1) 152 i0 _ 2 16 Tryz.underlying150 hi P K Q rfl (by decide) _ _ _ rfl (d.rb.alloc _) ⟨H.heap.size,0,none⟩ 1 1 s.cells rfl rfl ?qc1 ?qc2 ?qc3 ?qc4 ?qc5 ?_)
    case qc1=>first|exact λ_ _ h=>h|exact vN _ _ rfl s
    case qc2=>intro u X;simp[Sp.cells]at X;rcases X with rfl|rfl<;>rfl
    case qc3=>unfold maxLen;omega
    case qc4=>omega
    case qc5=>simp;omega
    intro v' w5 j a _ z;have N:nF w.heap.size u5 v' A (B++[s]) o w5:=(d.zL (aB (br _ _) s.obj)).grownB (by rw[dG,List.length_append];simpa[dO]using j) a (by simpa using z) (by simp);have Y:aF w w5:=eV (aB G s.obj) (nlq _) a (λk e=>by have:=(d.rb.lt k e).1;omega);clear a j z d G S4 s0 s1;go_wp2
    go_roundw
    case rel=>exact⟨k+1,A,B++[s],o,by omega,by go_num,N,Y,by rw[Hid,HT.oQ];exact L.out.behind HC.oQ V⟩
    case measure=>simp[intOf];omega
   |false=>
    have V:¬o.hi+1<s.lo:=by simpa[kQ]using g2
    have S:H.cell? ⟨w.heap.size,0,none⟩=some (.int .i64 o.lo):=d.cells.1;have T:H.cell? ⟨w.heap.size,1,none⟩=some (.int .i64 o.hi):=d.cells.2;go_wp2_with fail
    refine(yV o s _).mono ?_;rintro e w5 ⟨rfl,zd⟩;have N:=d.zL zd;have Y:=aC G zd;obtain⟨f,rR,rf0,rf1⟩:=N.bx;clear s0 s1 S T d G S4 zd;have r0:=rR.cell (i:=0) (by omega);have r1:=rR.cell (i:=1) (by omega);have rf:=λi=>rR.frozen i;go_wp2
    go_roundw
    case rel=>exact⟨k+1,A,B,jP o s,by omega,by go_num,N.setBox _,(Y.setCell (p:=⟨w.heap.size,0,none⟩) (nlq _) _).setCell (p:=⟨w.heap.size,1,none⟩) (nlq _) _,by rw[Hid,HT.oQ];exact L.out.join HC.oQ (by omega) (by omega)⟩
    case measure=>simp[intOf];omega
  ·have zy:l.take k=l:=ltl (by omega)
   rw[zy]at L;have zu:w.heap.size<wr.heap.size:=aA I.cells.1;obtain⟨S,T⟩:=I.cells
   go_wp2_with (at_builtin;refine wpList_append_own_at _ rfl (.tmp 43) (.tmp 45) 150 rfl (w.heap.size+1) 152 i0 _ 2 16 Tryz.underlying150 hi P K Q rfl (by decide) _ _ _ rfl (I.ra.alloc _) ⟨wr.heap.size,0,none⟩ 1 1 o.cells rfl rfl ?qc1 ?qc2 ?qc3 ?qc4 ?qc5 ?_)
   case qc1=>first|exact λ_ _ h=>h|exact vN _ _ rfl o
   case qc2=>intro u X;simp[Sp.cells]at X;rcases X with rfl|rfl<;>rfl
   case qc3=>unfold maxLen;omega
   case qc4=>omega
   case qc5=>simp;omega
   intro v' H j a _ z;have q:H.ownsRow (w.heap.size+1) 152 2 v' (A++[o]).length (dO (A++[o])):=by rw[dG,List.length_append];simpa[dO]using j
   have d:nF w.heap.size v' u6 (A++[o]) B o H:=(I.zL (aB (br _ _) o.obj)).grownA q a (by simpa using z);have G:aF w H:=eV (aB hN o.obj) (nlq _) a (λk e=>by have:=(I.ra.lt k e).1;omega);clear a j z I S T;have zm:(A++[o]).length=A.length+1:=by simp
   have zl:∀(v:Value) (W:World),W.ownsRow (w.heap.size+1) 152 2 v (A++[o]++B).length (dO (A++[o]++B))->aF w W->
    (∃D t R,Ending.returned v=.returned (.slice D R.length t)/\GP W D R/\uY r R/\∀n,gS R n↔(gS l n∨(m.lo<=n/\n<=m.hi)))/\aF w W:=λv W ho hB=>by
    obtain⟨D,t,rfl,hx⟩:=OC ho;exact⟨⟨D,t,_,rfl,hx,⟨L.out.canon,L.out.bound zr zs O.b⟩,L.out.memAll⟩,hB⟩
   have HF:=zl;clear zl
   rcases q.2 with⟨_,h0⟩|⟨g,zj,cur,rfl,hbg,_,hnc,_⟩
   ·rw[zm]at h0;omega
   by_cases za:B=[]
   ·have ye:=d.nb za
    subst za ye
    go_wp2_with (at_builtin;refine wpList_append_fits_any _ rfl (.tmp 46) (.tmp 47) 150 rfl (w.heap.size+1) 152 i0 2 Tryz.underlying150 hi K g _ zj _ rfl q none 0 0 [] rfl rfl (λ_=>⟨rfl,rfl⟩) (λ_ h=>by cases h) (by simp) (by omega) ?_)
    intro w5 E zf;have Y:aF w w5:=eV G (nlq _) zf (λk e=>by cases e;omega);clear d q G;go_wp2
    go_ret;exact HF _ _ (by simpa[dO]using E) Y
   ·rcases d.rb.2 with⟨_,h0⟩|⟨gb,zk,curb,rfl,_⟩
    ·exact absurd (List.eq_nil_of_length_eq_zero h0) za
    have zp:=d.rb.cells (g:=gb) rfl
    go_wp2_with (at_builtin;refine wpList_append_own_at _ rfl (.tmp 46) (.tmp 47) 150 rfl (w.heap.size+1) 152 i0 _ 2 16 Tryz.underlying150 hi P K Q rfl (by decide) _ _ _ rfl q ⟨gb,0,none⟩ B.length zk (dO B) rfl (g9 B) zp (D2 B) ?qc3 ?qc4 ?qc5 ?_)
    case qc3=>unfold maxLen;omega
    case qc4=>omega
    case qc5=>have:=G.size;have:=d.cells.1;have:=aA this;simp at this;omega
    intro v5 w5 E zf _ _;have Y:aF w w5:=eV G (nlq _) zf (λk e=>by simp[Value.ownBlock]at e;omega);clear d q G zp;go_wp2
    go_ret;exact HF v5 _ (by rw[dG,List.length_append,zm];exact E) Y
theorem RC (r:Int)(hmost:r<=10000)(l:List Sp)(m:Sp)(ao:Option Addr)(N:Nat)(w:World)(zg:GP w ao l)(M:uY r l)(zq:0<=m.lo)(zr:m.hi<=r):
 aY 154 #[.slice ao l.length N,m.val] w λe w'=>(∃D t R,e=.returned (.slice D R.length t)/\GP w' D R/\uY r R/\∀n,gS R n↔(gS l n∨(m.lo<=n/\n<=m.hi)))/\aF w w':=by
 have hl:=zg.1;have HL:=aG zg;clear zg;obtain⟨i0,hi,P,K,Q⟩:=info_parts Tryz.info152;have hn:l.length<=10001:=by have:=kE l 0 r M.c M.b;omega
 have A0:=wnq w m.obj;have zm:aF w (w.alloc m.obj):=aB (br _ _) _;obtain⟨v1,h1⟩:∃v,tI m=v:=⟨_,rfl⟩;obtain⟨v2,h2⟩:∃v,jT l m=v:=⟨_,rfl⟩
 go_enter Tryz.func154,Tryz.ntmps154
 go_wp2_with fail
 refine(DI m _).mono ?_;rintro e w1 ⟨rfl,zb⟩;rw[h1];have A1:=(zb.block _ (bU A0)).trans A0;have N1:=aC zm zb;clear zb zm A0
 cases v1 with
 |true=>
  go_wp2
  go_ret;exact⟨⟨ao,N,l,rfl,HL.oQ.zL N1,M,λn=>⟨.inl,λh=>h.elim id (λg=>by simp only[tI,dte]at h1;omega)⟩⟩,N1⟩
 |false=>
 have zy:m.lo<=m.hi:=by simp only[tI,decide_eq_false_iff_not]at h1;omega
 have S:w1.cell? ⟨w.heap.size,0,none⟩=some (.int .i64 m.lo):=bD A1 rfl;have T:w1.cell? ⟨w.heap.size,1,none⟩=some (.int .i64 m.hi):=bD A1 rfl;go_wp2_with fail
 refine(rS l m ao N _ (hl.zL N1) (by omega)).mono ?_;rintro e w2 ⟨rfl,zc⟩;rw[h2];have A2:=(zc.block _ (bU A1)).trans A1;have N2:=aC N1 zc;clear zc N1 A1 S T
 cases v2 with
 |true=>
  go_wp2
  go_ret;refine⟨⟨ao,N,l,rfl,HL.oQ.zL N2,M,λn=>⟨.inl,λh=>h.elim id (λg=>?_)⟩⟩,N2⟩;obtain⟨s,hs,hh⟩:=List.any_eq_true.1 h2;simp only[jK,bat,dte]at hh;exact⟨s,hs,by omega,by omega⟩
 |false=>
 have zv:w.heap.size<w2.heap.size:=(bU A2);clear h1 h2;go_wp2
 go_loopw [5,6,19] (λva vb i wr=>∃(k:Nat) (A B:List Sp) (o:Sp),k<=l.length/\i=.int .i64 k/\nF w.heap.size va vb A B o wr/\aF w wr/\Hid (pQ m (l.take k) A B o)) (λ_ _ i _=>l.length-(intOf i).toNat)
 case atStart=>exact⟨0,[],[],m,nz _,rfl,⟨World.ownsRow_nil _ _ _ _,World.ownsRow_nil _ _ _ _,.inl rfl,λ_=>rfl,_,wO A2,rfl,rfl⟩,N2,by rw[Hid,List.take_zero];exact AC m zy⟩
 case round=>
  clear A2 N2 zv;obtain⟨k,A,B,o,hk,rfl,I,hN,L⟩:=hrel;have hlen:=L.out.ln;have hlk:(l.take k).length<=k:=List.length_take_le _ _;have hin:=L.out.inb 0 r zq zr (λs hs=>M.b s (List.mem_of_mem_take hs));have hm'n:=L.out.ne;have zp:o.Small:=⟨by omega,by omega,by omega,by omega⟩
  by_cases J:k<l.length
  ·rcases hl with h|⟨bl,off,rfl,hc⟩
   ·subst h;simp at J
   have ze:=(hc k J).zL hN;have ya:=M.b l[k] (lgm J);have yb:=M.c.ne l[k] (lgm J);obtain⟨s,zh⟩:=bP (l[k]);rw[←zh]at ze ya yb;have yc:s.Small:=⟨by omega,by omega,by omega,by omega⟩;have HT:Hid (l.take (k+1)=l.take k++[s]):=by rw[Hid,List.take_succ_eq_append_getElem J,zh]
   have U:jZ (l.take k++[s]):=by
    rw[←HT.oQ];exact⟨λx hx=>M.c.ne x (List.mem_of_mem_take hx),M.c.sep.sublist (List.take_sublist _ _)⟩
   have HC:=aG U;clear zh hc U;obtain⟨c0,c1⟩:=DW ze;clear ze;have zw:bl<wr.heap.size:=aA c0;have zt:w.heap.size<wr.heap.size:=aA I.cells.1;have S:wr.cell? ⟨w.heap.size,0,none⟩=some (.int .i64 o.lo):=I.cells.1;have T:wr.cell? ⟨w.heap.size,1,none⟩=some (.int .i64 o.hi):=I.cells.2;have S0:=wnq wr s.obj;have zn:aF wr (wr.alloc s.obj):=aB (br _ _) _;obtain⟨u1,g1⟩:∃v,kQ s o=v:=⟨_,rfl⟩;obtain⟨u2,g2⟩:∃v,kQ o s=v:=⟨_,rfl⟩;go_wp2_with fail
   refine(qX s o _ zp).mono ?_;rintro e w3 ⟨rfl,C⟩;rw[g1];have Z:=(C.block _ (bU S0)).trans S0;have C:=aC zn C;have y:=I.zL C;have N3:=aC hN C;have hbz3:=Nat.lt_of_lt_of_le zw C.size;have zu:=Nat.lt_of_lt_of_le zt C.size;have zz:wr.heap.size<w3.heap.size:=(bU Z);clear c0 c1 S T S0 zn I hN;have s0:w3.cell? ⟨wr.heap.size,0,none⟩=some (.int .i64 s.lo):=bD Z rfl;have s1:w3.cell? ⟨wr.heap.size,1,none⟩=some (.int .i64 s.hi):=bD Z rfl
   cases u1 with
   |true=>
    have zs:s.hi+1<o.lo:=by simpa[kQ]using g1
    go_wp2_with (at_builtin;refine wpList_append_own_at _ rfl (.tmp 30) (.tmp 32) 150 rfl (w.heap.size+1) 152 i0 _ 2 16 Tryz.underlying150 hi P K Q rfl (by decide) _ _ _ rfl (y.ra.alloc _) ⟨w3.heap.size,0,none⟩ 1 1 s.cells rfl rfl ?qc1 ?qc2 ?qc3 ?qc4 ?qc5 ?_)
    case qc1=>first|exact λ_ _ h=>h|exact vN _ _ rfl s
    case qc2=>intro u X;simp[Sp.cells]at X;rcases X with rfl|rfl<;>rfl
    case qc3=>unfold maxLen;omega
    case qc4=>omega
    case qc5=>simp;omega
    intro v' H j a _ z;have d:nF w.heap.size v' u6 (A++[s]) B o H:=(y.zL (aB (br _ _) s.obj)).grownA (by rw[dG,List.length_append];simpa[dO]using j) a (by simpa using z);have G:aF w H:=eV (aB N3 s.obj) (nlq _) a (λk e=>by have:=(y.ra.lt k e).1;omega);clear a j z y N3 Z s0 s1;go_wp2
    go_roundw
    case rel=>exact⟨k+1,A++[s],B,o,by omega,by go_num,d,G,by rw[Hid,HT.oQ];exact L.out.ahead HC.oQ zs⟩
    case measure=>simp[intOf];omega
   |false=>
   have zs:¬s.hi+1<o.lo:=by simpa[kQ]using g1
   have S:w3.cell? ⟨w.heap.size,0,none⟩=some (.int .i64 o.lo):=y.cells.1;have T:w3.cell? ⟨w.heap.size,1,none⟩=some (.int .i64 o.hi):=y.cells.2;go_wp2_with fail
   refine(qX o s _ yc).mono ?_;rintro e H ⟨rfl,F⟩;rw[g2];have S4:=(F.block _ (bU Z)).trans Z;have d:=y.zL F;have G:=aC N3 F;have hwz4:=Nat.lt_of_lt_of_le zu F.size;have hrz4:=Nat.lt_of_lt_of_le zz F.size;clear s0 s1 S T y N3 Z C F;have s0:H.cell? ⟨wr.heap.size,0,none⟩=some (.int .i64 s.lo):=bD S4 rfl;have s1:H.cell? ⟨wr.heap.size,1,none⟩=some (.int .i64 s.hi):=bD S4 rfl
   cases u2 with
   |true=>
    have V:o.hi+1<s.lo:=by simpa[kQ]using g2
    go_wp2_with (at_builtin;refine wpList_append_own_at _ rfl (.tmp 38) (.tmp 40) 150 rfl (w.heap.size+1) 152 i0 _ 2 16 Tryz.underlying150 hi P K Q rfl (by decide) _ _ _ rfl (d.rb.alloc _) ⟨H.heap.size,0,none⟩ 1 1 s.cells rfl rfl ?qc1 ?qc2 ?qc3 ?qc4 ?qc5 ?_)
    case qc1=>first|exact λ_ _ h=>h|exact vN _ _ rfl s
    case qc2=>intro u X;simp[Sp.cells]at X;rcases X with rfl|rfl<;>rfl
    case qc3=>unfold maxLen;omega
    case qc4=>omega
    case qc5=>simp;omega
    intro v' w5 j a _ z;have O:nF w.heap.size u5 v' A (B++[s]) o w5:=(d.zL (aB (br _ _) s.obj)).grownB (by rw[dG,List.length_append];simpa[dO]using j) a (by simpa using z) (by simp);have Y:aF w w5:=eV (aB G s.obj) (nlq _) a (λk e=>by have:=(d.rb.lt k e).1;omega);clear a j z d G S4 s0 s1;go_wp2
    go_roundw
    case rel=>exact⟨k+1,A,B++[s],o,by omega,by go_num,O,Y,by rw[Hid,HT.oQ];exact L.out.behind HC.oQ V⟩
    case measure=>simp[intOf];omega
   |false=>
    have V:¬o.hi+1<s.lo:=by simpa[kQ]using g2
    have S:H.cell? ⟨w.heap.size,0,none⟩=some (.int .i64 o.lo):=d.cells.1;have T:H.cell? ⟨w.heap.size,1,none⟩=some (.int .i64 o.hi):=d.cells.2;go_wp2_with fail
    refine(yV o s _).mono ?_;rintro e w5 ⟨rfl,zd⟩;have O:=d.zL zd;have Y:=aC G zd;obtain⟨f,rR,rf0,rf1⟩:=O.bx;clear s0 s1 S T d G S4 zd;have r0:=rR.cell (i:=0) (by omega);have r1:=rR.cell (i:=1) (by omega);have rf:=λi=>rR.frozen i;go_wp2
    go_roundw
    case rel=>exact⟨k+1,A,B,jP o s,by omega,by go_num,O.setBox _,(Y.setCell (p:=⟨w.heap.size,0,none⟩) (nlq _) _).setCell (p:=⟨w.heap.size,1,none⟩) (nlq _) _,by rw[Hid,HT.oQ];exact L.out.join HC.oQ (by omega) (by omega)⟩
    case measure=>simp[intOf];omega
  ·have zx:l.take k=l:=ltl (by omega)
   rw[zx]at L;have zt:w.heap.size<wr.heap.size:=aA I.cells.1;obtain⟨S,T⟩:=I.cells
   go_wp2_with (at_builtin;refine wpList_append_own_at _ rfl (.tmp 43) (.tmp 45) 150 rfl (w.heap.size+1) 152 i0 _ 2 16 Tryz.underlying150 hi P K Q rfl (by decide) _ _ _ rfl (I.ra.alloc _) ⟨wr.heap.size,0,none⟩ 1 1 o.cells rfl rfl ?qc1 ?qc2 ?qc3 ?qc4 ?qc5 ?_)
   case qc1=>first|exact λ_ _ h=>h|exact vN _ _ rfl o
   case qc2=>intro u X;simp[Sp.cells]at X;rcases X with rfl|rfl<;>rfl
   case qc3=>unfold maxLen;omega
   case qc4=>omega
   case qc5=>simp;omega
   intro v' H j a _ z;have q:H.ownsRow (w.heap.size+1) 152 2 v' (A++[o]).length (dO (A++[o])):=by rw[dG,List.length_append];simpa[dO]using j
   have d:nF w.heap.size v' u6 (A++[o]) B o H:=(I.zL (aB (br _ _) o.obj)).grownA q a (by simpa using z);have G:aF w H:=eV (aB hN o.obj) (nlq _) a (λk e=>by have:=(I.ra.lt k e).1;omega);clear a j z I S T;have zl:(A++[o]).length=A.length+1:=by simp
   have zk:∀(v:Value) (W:World),W.ownsRow (w.heap.size+1) 152 2 v (A++[o]++B).length (dO (A++[o]++B))->aF w W->
    (∃D t R,Ending.returned v=.returned (.slice D R.length t)/\GP W D R/\uY r R/\∀n,gS R n↔(gS l n∨(m.lo<=n/\n<=m.hi)))/\aF w W:=λv W ho hB=>by
    obtain⟨D,t,rfl,hx⟩:=OC ho;exact⟨⟨D,t,_,rfl,hx,⟨L.out.canon,L.out.bound zq zr M.b⟩,L.out.memAll⟩,hB⟩
   have HF:=zk;clear zk
   rcases q.2 with⟨_,h0⟩|⟨g,zi,cur,rfl,hbg,_,hnc,_⟩
   ·rw[zl]at h0;omega
   by_cases za:B=[]
   ·have yd:=d.nb za
    subst za yd
    go_wp2_with (at_builtin;refine wpList_append_fits_any _ rfl (.tmp 46) (.tmp 47) 150 rfl (w.heap.size+1) 152 i0 2 Tryz.underlying150 hi K g _ zi _ rfl q none 0 0 [] rfl rfl (λ_=>⟨rfl,rfl⟩) (λ_ h=>by cases h) (by simp) (by omega) ?_)
    intro w5 E zf;have Y:aF w w5:=eV G (nlq _) zf (λk e=>by cases e;omega);clear d q G;go_wp2
    go_ret;exact HF _ _ (by simpa[dO]using E) Y
   ·rcases d.rb.2 with⟨_,h0⟩|⟨gb,zj,curb,rfl,_⟩
    ·exact absurd (List.eq_nil_of_length_eq_zero h0) za
    have zo:=d.rb.cells (g:=gb) rfl
    go_wp2_with (at_builtin;refine wpList_append_own_at _ rfl (.tmp 46) (.tmp 47) 150 rfl (w.heap.size+1) 152 i0 _ 2 16 Tryz.underlying150 hi P K Q rfl (by decide) _ _ _ rfl q ⟨gb,0,none⟩ B.length zj (dO B) rfl (g9 B) zo (D2 B) ?qc3 ?qc4 ?qc5 ?_)
    case qc3=>unfold maxLen;omega
    case qc4=>omega
    case qc5=>have:=G.size;have:=d.cells.1;have:=aA this;simp at this;omega
    intro v5 w5 E zf _ _;have Y:aF w w5:=eV G (nlq _) zf (λk e=>by simp[Value.ownBlock]at e;omega);clear d q G zo;go_wp2
    go_ret;exact HF v5 _ (by rw[dG,List.length_append,zl];exact E) Y
end Go.Proofs.YtcdbcliaepcpfaaGreatDoor
