import Derived.Test.YtoolgmmljacfmaaGreatDoorLeaf
import Derived.Test.YtoolgmmljacfmaaGreatDoorKeep
import Derived.Maps.AppendAt
import Derived.OwnWalk
set_option maxRecDepth 100000
set_option maxHeartbeats 4000000
open List renaming length → ln
open Go.Proofs.Tryz Go.RowKit
namespace Go.Proofs.YtoolgmmljacfmaaGreatDoor
variable {w:Wd}{z j:Nat}{a:Array Va}{t:TypeId}{v u:Va}{b:Bx}{f:Nat → Va}
def I9 (s:Sp):Bool:=decide (s.hi<s.lo)
def kI (s:Sp)(n:Int):Bool:=decide (s.lo<=n/\n<=s.hi)
def rM (s t:Sp):Bool:=decide (s.hi+1<t.lo)
def cW (s t:Sp):Sp:=⟨max s.lo t.lo,min s.hi t.hi⟩
def kY (s t:Sp):Sp:=⟨min s.lo t.lo,max s.hi t.hi⟩
def Sp.Small (s:Sp):Prop:=-1000000<=s.lo/\s.lo<=1000000/\-1000000<=s.hi/\s.hi<=1000000
theorem sW (s:Sp)(n:Int)(w:Wd):
 aW 169 #[s.val,I n] w λe w'=>e=rt (.bool (kI s n))/\aG w w':=by
 go_enter func169,ntmps169
 go_wp2
 all_goals go_ret
 all_goals refine⟨aF ?_,aC (br _ _) _⟩
 all_goals (rw[beii];simp only[kI,dte,bft,false_iff];omega)
theorem UV (s:Sp)(w:Wd):
 aW 230 #[s.val] w λe w'=>e=rt (.bool (I9 s))/\aG w w':=by
 go_enter func230,ntmps230
 go_wp2
 all_goals go_ret
 all_goals refine⟨aF ?_,aC (br _ _) _⟩
 all_goals rfl
theorem FX (s t:Sp)(w:Wd)(a:t.Small):
 aW 232 #[s.val,t.val] w λe w'=>e=rt (.bool (rM s t))/\aG w w':=by
 obtain⟨t1,t2,t3,t4⟩:=a
 go_enter func232,ntmps232
 go_wp2
 all_goals go_ret
 all_goals refine⟨aF ?_,aC (aC (br _ _) _) _⟩
 all_goals (rw[beii];simp only[rM,dte,bft,false_iff];omega)
theorem QS (s t:Sp)(w:Wd):
 aW 233 #[s.val,t.val] w λe w'=>e=rt (kY s t).val/\aG w w':=by
 go_enter func233,ntmps233
 go_wp2
 all_goals
  refine bpr (v:=(kY s t).val) ?_ rfl ⟨rfl,aC (aC (aC (br _ _) _) _) _⟩
  first|(rw[show kY s t=⟨t.lo,t.hi⟩from by simp only[kY,Sp.mk.injEq];omega])|(rw[show kY s t=⟨t.lo,s.hi⟩from by simp only[kY,Sp.mk.injEq];omega])|(rw[show kY s t=⟨s.lo,t.hi⟩from by simp only[kY,Sp.mk.injEq];omega])|(rw[show kY s t=⟨s.lo,s.hi⟩from by simp only[kY,Sp.mk.injEq];omega])
  simp[results,results233,go_sem]
theorem BU (s t:Sp)(w:Wd):
 aW 173 #[s.val,t.val] w λe w'=>e=rt (cW s t).val/\aG w w':=by
 go_enter func173,ntmps173
 go_wp2
 all_goals
  refine bpr (v:=(cW s t).val) ?_ rfl ⟨rfl,aC (aC (aC (br _ _) _) _) _⟩
  first|(rw[show cW s t=⟨t.lo,t.hi⟩from by simp only[cW,Sp.mk.injEq];omega])|(rw[show cW s t=⟨t.lo,s.hi⟩from by simp only[cW,Sp.mk.injEq];omega])|(rw[show cW s t=⟨s.lo,t.hi⟩from by simp only[cW,Sp.mk.injEq];omega])|(rw[show cW s t=⟨s.lo,s.hi⟩from by simp only[cW,Sp.mk.injEq];omega])
  simp[results,results173,go_sem]
theorem nN (n:Int)(w:Wd):
 aW 132 #[I n] w λe w'=>e=rt (Sp.val ⟨0,n⟩)/\aG w w':=by
 go_enter func132,ntmps132;go_wp2;refine bpr (v:=Sp.val ⟨0,n⟩) ?_ rfl ⟨rfl,aC (br _ _) _⟩;simp[results,results132,go_sem]
abbrev Bx.obj (b:Bx):Obj:=.cells #[I b.x,I b.y,I b.lo,I b.hi,I b.i,I b.o] 91
theorem cB (h:w.heap[z]?=some (.cells a t))(b:a[j]?=some v):w.cell? (Y z j)=some v:=by simp[World.cell?,h,b]
theorem AT (h:w.heap[z]?=some b.obj):fX w z 0 b:=⟨cB h rfl,cB h rfl,cB h rfl,cB h rfl,cB h rfl,cB h rfl⟩
theorem uJ (h:w.heap[z]?=some (.cells #[u,v] t)):w.rowIs z t 2 (λi=>if i=0 then u else v):=
 ⟨#[u,v],h,rfl,λi a=>by match i,a with|0,_=>rfl|1,_=>rfl⟩
theorem nH (h:w.rowIs z t 2 f):w.cell? (Y z 0)=some (f 0)/\w.cell? (Y z 1)=some (f 1):=⟨h.cell om,h.cell om⟩
def gZ (m o:Bx):Sp:=if kJ m o&&lV m o then⟨o.i-m.o,o.o-m.i⟩else⟨1,0⟩
theorem KX (m o:Bx)(w:Wd)(O:aK m=true)(P:aK o=true):
 aW 176 #[m.val,o.val] w λe w'=>e=rt (gZ m o).val/\aG w w':=by
 obtain⟨X,A⟩:∃v,kJ m o=v:=⟨_,rfl⟩;obtain⟨Z,J⟩:∃v,lV m o=v:=⟨_,rfl⟩;have L:0<=m.i/\m.i<=10000/\0<=m.o/\m.o<=10000:=by simp only[aK,dte]at O;omega
 have M:0<=o.i/\o.i<=10000/\0<=o.o/\o.o<=10000:=by simp only[aK,dte]at P;omega
 obtain⟨m1,m2,m3,m4⟩:=L;obtain⟨o1,o2,o3,o4⟩:=M;obtain⟨S,K⟩:=bQ (gZ m o);rw[←K];have G:=aI K;clear K;have B:=(halq ((w.alloc m.obj).alloc o.obj) (.cells #[I 0,I 0] 175) w.heap.size so).trans ((halq (w.alloc m.obj) o.obj w.heap.size sm).trans (wnq w m.obj));have d:=wnq (w.alloc m.obj) o.obj;rw[wsa]at d;have D:=(halq ((w.alloc m.obj).alloc o.obj) (.cells #[I 0,I 0] 175) (w.heap.size+1) sm).trans d;clear d;have j:=wnq ((w.alloc m.obj).alloc o.obj) (.cells #[I 0,I 0] 175);rw[wsa,wsa]at j;have f:aG w (((w.alloc m.obj).alloc o.obj).alloc (.cells #[I 0,I 0] 175)):=aC (aC (aC (br _ _) _) _) _;go_enter func176,ntmps176;go_wp2_with fail;obtain⟨W0,g⟩:=cI (((w.alloc m.obj).alloc o.obj).alloc (.cells #[I 0,I 0] 175));rw[g]at B D j f ⊢;clear g;refine(lA m o _).mono ?_;rintro e w1 ⟨rfl,a⟩;rw[A];have C:=btq a B;have F:=btq a D;have C1:=btq a j;have H:=aE f a;clear B D j f a;cases X with
 |false=>
  have c:=uJ C1;have U:=c.cell (i:=0) om;have V:=c.cell (i:=1) om;have W:=λi=>c.frozen i;go_wp2;refine bpr (v:=S.val) ?_ rfl ⟨rfl,(H.setCell (p:=(Y (w.heap.size+1+1) 0)) (by show w.heap.size<=w.heap.size+1+1;omega) _).setCell (p:=(Y (w.heap.size+1+1) 1)) (by show w.heap.size<=w.heap.size+1+1;omega) _⟩;rw[G.oQ,gZ,A];have h:=nH ((c.set 0 (I 1)).set 1 (I 0));simp[results,results176,go_sem,h]
 |true=>
 have k:=AT C;have t:=AT F;obtain⟨k,l,n,q,r,s⟩:=k;obtain⟨t,b1,u,x,y,z⟩:=t;rw[nza]at l n q r s b1 u x y z;go_wp2_with fail;refine(tQ m o _ O P).mono ?_;rintro e w2 ⟨rfl,b⟩;rw[J];have Q:=btq b C;have R:=btq b F;have T:=btq b C1;have N:=aE H b;clear k l n q r s t b1 u x y z C F C1 H b;have c:=uJ T;have U:=c.cell (i:=0) om;have V:=c.cell (i:=1) om;have W:=λi=>c.frozen i;cases Z with
 |false=>
  go_wp2;refine bpr (v:=S.val) ?_ rfl ⟨rfl,(N.setCell (p:=(Y (w.heap.size+1+1) 0)) (by show w.heap.size<=w.heap.size+1+1;omega) _).setCell (p:=(Y (w.heap.size+1+1) 1)) (by show w.heap.size<=w.heap.size+1+1;omega) _⟩;rw[G.oQ,gZ,A,J];have h:=nH ((c.set 0 (I 1)).set 1 (I 0));simp[results,results176,go_sem,h]
 |true=>
  obtain⟨k,l,n,q,r,s⟩:=AT Q;obtain⟨t,b1,u,x,y,z⟩:=AT R;rw[nza]at l n q r s b1 u x y z;go_wp2;refine bpr (v:=S.val) ?_ rfl ⟨rfl,(N.setCell (p:=(Y (w.heap.size+1+1) 0)) (by show w.heap.size<=w.heap.size+1+1;omega) _).setCell (p:=(Y (w.heap.size+1+1) 1)) (by show w.heap.size<=w.heap.size+1+1;omega) _⟩;rw[G.oQ,gZ,A,J];have h:=nH ((c.set 0 (I (o.i-m.o))).set 1 (I (o.o-m.i)));simp[results,results176,go_sem,h]
def RetBool (e:Ending):Prop:=∃v:Bool,e=rt (.bool v)
def RetSp (e:Ending):Prop:=∃s:Sp,e=rt s.val
theorem QG (a b:Int)(w:Wd):
 aW 268 #[I a,I b] w λe w'=>(∃r,e=rt (I r))/\w'=w:=by
 go_enter func268,ntmps268
 go_wp2
 all_goals go_ret
 all_goals exact⟨⟨_,rfl⟩,rfl⟩
theorem BI (a b:Bx)(w:Wd):
 aW 237 #[a.val,b.val] w λe w'=>RetBool e/\aG w w':=by
 go_enter func237,ntmps237
 go_wp2_with (go_at_call 268;refine(QG _ _ _).mono ?_;rintro e w' ⟨⟨r,rfl⟩,rfl⟩)
 all_goals go_ret
 all_goals exact⟨⟨_,rfl⟩,((br _ _).alloc (nlq _) _).alloc sm _⟩
theorem I6 (m o:Bx)(w:Wd):
 aW 176 #[m.val,o.val] w λe w'=>RetSp e/\aG w w':=by
 obtain⟨P,L⟩:∃v,kJ m o=v:=⟨_,rfl⟩;have A:=(halq ((w.alloc m.obj).alloc o.obj) (.cells #[I 0,I 0] 175) w.heap.size so).trans ((halq (w.alloc m.obj) o.obj w.heap.size sm).trans (wnq w m.obj));have d:=wnq (w.alloc m.obj) o.obj;rw[wsa]at d;have C:=(halq ((w.alloc m.obj).alloc o.obj) (.cells #[I 0,I 0] 175) (w.heap.size+1) sm).trans d;clear d;have j:=wnq ((w.alloc m.obj).alloc o.obj) (.cells #[I 0,I 0] 175);rw[wsa,wsa]at j;have f:aG w (((w.alloc m.obj).alloc o.obj).alloc (.cells #[I 0,I 0] 175)):=aC (aC (aC (br _ _) _) _) _;go_enter func176,ntmps176;go_wp2_with fail;obtain⟨W0,g⟩:=cI (((w.alloc m.obj).alloc o.obj).alloc (.cells #[I 0,I 0] 175));rw[g]at A C j f ⊢;clear g;refine(lA m o _).mono ?_;rintro e w1 ⟨rfl,a⟩;rw[L];have B:=btq a A;have D:=btq a C;have C1:=btq a j;have F:=aE f a;clear A C j f a;cases P with
 |false=>
  have c:=uJ C1;have M:=c.cell (i:=0) om;have N:=c.cell (i:=1) om;have O:=λi=>c.frozen i;go_wp2;refine bpr (v:=Sp.val ⟨1,0⟩) ?_ rfl ⟨⟨_,rfl⟩,(F.setCell (p:=(Y (w.heap.size+1+1) 0)) (by show w.heap.size<=w.heap.size+1+1;omega) _).setCell (p:=(Y (w.heap.size+1+1) 1)) (by show w.heap.size<=w.heap.size+1+1;omega) _⟩;have h:=nH ((c.set 0 (I 1)).set 1 (I 0));simp[results,results176,go_sem,h]
 |true=>
 have k:=AT B;have t:=AT D;obtain⟨k,l,n,q,r,s⟩:=k;obtain⟨t,b1,u,x,y,z⟩:=t;rw[nza]at l n q r s b1 u x y z;go_wp2_with fail;refine(BI m o _).mono ?_;rintro e w2 ⟨⟨Q,rfl⟩,b⟩;have H:=btq b B;have J:=btq b D;have K:=btq b C1;have G:=aE F b;clear k l n q r s t b1 u x y z B D C1 F b;have c:=uJ K;have M:=c.cell (i:=0) om;have N:=c.cell (i:=1) om;have O:=λi=>c.frozen i;cases Q with
 |false=>
  go_wp2;refine bpr (v:=Sp.val ⟨1,0⟩) ?_ rfl ⟨⟨_,rfl⟩,(G.setCell (p:=(Y (w.heap.size+1+1) 0)) (by show w.heap.size<=w.heap.size+1+1;omega) _).setCell (p:=(Y (w.heap.size+1+1) 1)) (by show w.heap.size<=w.heap.size+1+1;omega) _⟩;have h:=nH ((c.set 0 (I 1)).set 1 (I 0));simp[results,results176,go_sem,h]
 |true=>
  obtain⟨k,l,n,q,r,s⟩:=AT H;obtain⟨t,b1,u,x,y,z⟩:=AT J;rw[nza]at l n q r s b1 u x y z;go_wp2;refine bpr (v:=Sp.val ⟨wrap64 (o.i-m.o),wrap64 (o.o-m.i)⟩) ?_ rfl ⟨⟨_,rfl⟩,(G.setCell (p:=(Y (w.heap.size+1+1) 0)) (by show w.heap.size<=w.heap.size+1+1;omega) _).setCell (p:=(Y (w.heap.size+1+1) 1)) (by show w.heap.size<=w.heap.size+1+1;omega) _⟩;have h:=nH ((c.set 0 (I (wrap64 (o.i-m.o)))).set 1 (I (wrap64 (o.o-m.i))));simp[results,results176,go_sem,h]
variable {W a w':Wd}{k b n p:Nat}{e:TypeId}{xs:List Va}{l:List Sp}{s:Sp}{m:Oa}
theorem Tryz.info175:(Tryz.prog.info? 175).map (λi=>(i.zero,i.size,i.bytes))=some (some (.agg #[I 0,I 0]),2,16):=kr
def eX:List Sp->List Value
 |[]=>[]
 |s::r=>s.cells++eX r
theorem fI:∀(l r:List Sp),eX (l++r)=eX l++eX r
 |[],r=>rfl
 |a::l,r=>by simp[eX,fI l r]
theorem jT:∀(l:List Sp),ln (eX l)=ln l*2
 |[]=>rfl
 |a::r=>by rw[eX,lla,jT r];simp[Sp.cells];omega
theorem xI:∀(l:List Sp) (i:Nat) (h:i<ln l) (j:Nat),j<2->(eX l)[i*2+j]?=(l[i].cells)[j]?
 |[],i,h,j,hj=>by simp at h
 |a::r,0,h,j,hj=>by
  rw[eX,lgl (by simp[Sp.cells];omega)];simp
 |a::r,i+1,h,j,hj=>by
  have h':i<ln r:=by simpa using h
  rw[eX,lgr (by simp[Sp.cells];omega)];have e:(i+1)*2+j-ln a.cells=i*2+j:=by simp[Sp.cells];omega
  rw[e,xI r i h' j hj];rfl
theorem SJ (l:List Sp):∀u∈eX l,u.oneCell'=true:=by
 induction l with
 |nil=>simp[eX]
 |cons a r ih=>
  intro u b;rcases lma.1 b with h|h;·simp[Sp.cells]at h;rcases h with rfl|rfl<;>rfl
  ·exact ih u h
theorem YM (h:aG W a):W.grownBy a none:=⟨h.os,h.tape,h.output,h.size,λk b _=>h.block k b⟩
theorem dC (h:W.ownsRow k e b v n xs)(a:aG W w'):w'.ownsRow k e b v n xs:=
 h.kept (YM a) (by cases v.ownBlock<;>simp)
theorem own_xs (h:W.ownsRow p 175 2 v (ln l) (eX l)):∃e a,v=.slice e (ln l) a/\Xs 2 Sp.cells W e l/\(ln l)<=a:=by
 rcases h.2 with⟨b,i⟩|⟨g,a,cur,b,hb,hg,d,_,n,ht⟩;·exact⟨none,0,by rw[b,i],Or.inl (enl i),om⟩
 ·refine⟨some (Y g 0),a,b,Or.inr ⟨g,0,rfl,λk m j u f=>?_⟩,d⟩;have c:j<2:=(lgs.1 f).1;have:=h.cells (g:=g) (by rw[b];rfl) (k*2+j) u (by rw[xI l k m j c];exact f);rw[aal,nza]at this;rw[nza];exact this
theorem JP (h:bC W k b s.cells):W.cell? (Y k b)=some (I s.lo)/\W.cell? (Y k (b+1))=some (I s.hi):=⟨h 0 _ rfl,h 1 _ rfl⟩
abbrev Sp.obj (s:Sp):Obj:=.cells #[I s.lo,I s.hi] 175
def kW (l:List Sp)(m:Sp):Bool:=l.any λs=>kI s m.lo&&kI s m.hi
theorem PH (W:Wd)(g:Nat)(b:g=W.heap.size)(s:Sp):∀j u,(s.cells)[j]?=some u->(W.alloc s.obj).cell? (((Y g 0):Addr).add j)=some u:=by
 subst b;intro j u a;match j,a with
 |0,a=>simp[Sp.cells]at a;subst a;simp[Addr.add]
 |1,a=>simp[Sp.cells]at a;subst a;simp[Addr.add]
 |n+2,a=>simp[Sp.cells]at a
theorem xX (l:List Sp)(m:Sp)(N:Oa)(u:Nat)(w:Wd)(S:Xs 2 Sp.cells w N l)(hn:ln l<=1048576):
 aW 231 #[.slice N (ln l) u,m.val] w λe w'=>e=rt (.bool (kW l m))/\aG w w':=by
 obtain⟨V,A⟩:=bQ (kW l m);rw[←A];have K:=aI A;clear A;have F:=wnq w m.obj;have a:aG w (w.alloc m.obj):=aC (br _ _) _
 go_enter Tryz.func231,Tryz.ntmps231
 go_wp2
 obtain⟨W0,q⟩:=cI (w.alloc m.obj);rw[q]at F a ⊢;clear q
 go_loopw [9] (λi wr=>∃k:Nat,k<=ln l/\i=I k/\aG W0 wr/\Hid (kW (l.take k) m=false)) (λi _=>ln l-(intOf i).toNat)
 case atStart=>exact⟨0,nz _,rfl,br _ _,by simp[Hid,kW]⟩
 case round=>
  obtain⟨k,hk,rfl,y,g⟩:=hrel;have O:aG w wr:=a.trans (y.mono a.size);have n:=btq y F
  by_cases d:k<ln l
  ·rcases S with h|⟨bl,off,rfl,P⟩
   ·subst h;simp at d
   have f:=(P k d).zL O;obtain⟨s,j⟩:=bQ (l[k]);rw[←j]at f;have H:=aI j;clear j P;obtain⟨Q,R⟩:=JP f;have hwz:w.heap.size<wr.heap.size:=(cE n);have C:wr.cell? (ya w 0)=some (I m.lo):=cB n rfl;have D:wr.cell? (ya w 1)=some (I m.hi):=cB n rfl;have c:kW (l.take (k+1)) m=(kW (l.take k) m||(kI s m.lo&&kI s m.hi)):=by rw[kW,iH _ l k d,←H.oQ];rfl
   have J:=aI c;clear c f;obtain⟨W,t⟩:∃v,kI s m.lo=v:=⟨_,rfl⟩;obtain⟨X,x⟩:∃v,kI s m.hi=v:=⟨_,rfl⟩;have L:=wnq wr s.obj;have r:aG wr (wr.alloc s.obj):=aC (br _ _) _;go_wp2_with fail
   refine(sW s m.lo _).mono ?_;rintro e w1 ⟨rfl,b⟩;rw[t];have M:=btq b L;have b:=aE r b;have G:=btq b n;have o:=bI y (nlq _) b;clear Q R C D L r n
   cases W with
   |false=>
    go_wp2
    go_roundw
    case rel=>exact⟨k+1,om,gn,o,by rw[Hid,J.oQ,g.out,t];rfl⟩
    case measure=>simp[intOf];omega
   |true=>
   have T:w1.cell? (ya wr 0)=some (I s.lo):=cB M rfl;have U:w1.cell? (ya wr 1)=some (I s.hi):=cB M rfl;have C:w1.cell? (ya w 0)=some (I m.lo):=cB G rfl;have D:w1.cell? (ya w 1)=some (I m.hi):=cB G rfl;go_wp2_with fail
   refine(sW s m.hi _).mono ?_;rintro e Z ⟨rfl,B⟩;rw[x];have p:=bI o (nlq _) B;have z:aG w Z:=a.trans (p.mono a.size);clear T U C D
   cases X with
   |false=>
    go_wp2
    go_roundw
    case rel=>exact⟨k+1,om,gn,p,by rw[Hid,J.oQ,g.out,t,x];rfl⟩
    case measure=>simp[intOf];omega
   |true=>
    go_wp2
    go_ret;exact⟨aF (by rw[K.oQ,kW,gU _ l k d (by rw[←H.oQ,t,x];rfl)]),z⟩
  ·go_wp2
   go_ret;exact⟨aF (by rw[K.oQ];have:=g.out;rw[ltl om]at this;exact this.symm),O⟩
def PB (w:World)(ao:Option Addr)(l:List Sp):Prop:=Xs 2 Sp.cells w ao l/\(l=[]∨∃bl off cs,ao=some (Y bl off)/\w.heap[bl]?=some (.cells cs 175))
theorem PB.zL {w w':Wd}(h:PB w m l)(c:aG w w'):PB w' m l:=by
 refine⟨h.1.zL c,?_⟩;rcases h.2 with e|⟨d,a,f,e,g⟩;·exact .inl e
 ·exact .inr ⟨d,a,f,e,btq c g⟩
theorem own_xsT (h:W.ownsRow k 175 2 v (ln l) (eX l)):∃c a,v=.slice c (ln l) a/\PB W c l:=by
 have f:=h.2;obtain⟨c,a,e,hx,_⟩:=own_xs h;refine⟨c,a,e,hx,?_⟩;rcases f with⟨_,j⟩|⟨g,cap',d,b,_,i,_⟩;·exact .inl (enl j)
 ·rw[e]at b;cases b;exact .inr ⟨g,0,d,rfl,i⟩
variable {l:Nat}{c d g a i:Va}{A B b:List Sp}{m:Sp}{v:Wd}{j:Option Nat}
structure qZ (z:Nat)(va vb:Value)(A B:List Sp)(m:Sp)(w:World):Prop where
 ra:w.ownsRow (z+1) 175 2 va A.length (eX A)
 rb:w.ownsRow (z+1) 175 2 vb B.length (eX B)
 ne:vb.ownBlock=none∨vb.ownBlock≠va.ownBlock
 nb:B=[]->vb=.slice none 0 0
 bx:∃f,w.rowIs z 175 2 f/\f 0=.int .i64 m.lo/\f 1=.int .i64 m.hi
theorem qZ.zL {w w':Wd}(h:qZ z c d A B m w)(a:aG w w'):qZ z c d A B m w':=
 ⟨dC h.ra a,dC h.rb a,h.ne,h.nb,by obtain⟨f,b,e,g⟩:=h.bx;exact⟨f,b.of_block (a.block _ b.lt),e,g⟩⟩
theorem qZ.grownA (h:qZ z d g A B m w) (p:w'.ownsRow (z+1) 175 2 a (ln b) (eX b)) (i:w.grownBy w' d.ownBlock) (c:a.ownBlock=d.ownBlock∨a.ownBlock=some w.heap.size):qZ z a g b B m w':=by
 refine⟨p,h.rb.kept i h.ne,?_,h.nb,by obtain⟨f,j,n,o⟩:=h.bx;exact⟨f,j.of_block (i.block _ j.lt (λe=>by have:=(h.ra.lt _ e.symm).1;omega)),n,o⟩⟩;rcases c with e|e;·rw[e];exact h.ne
 ·cases hv:g.ownBlock with
  |none=>exact .inl rfl
  |some k=>right;rw[e];intro l;have:=(h.rb.lt _ hv).2;cases l;omega
theorem qZ.grownB (h:qZ z g i A B m w) (q:w'.ownsRow (z+1) 175 2 c (ln b) (eX b)) (j:w.grownBy w' i.ownBlock) (d:c.ownBlock=i.ownBlock∨c.ownBlock=some w.heap.size) (p:b≠[]):qZ z g c A b m w':=by
 refine⟨h.ra.kept j ?_,q,?_,λe=>absurd e p,by obtain⟨f,l,n,o⟩:=h.bx;exact⟨f,l.of_block (j.block _ l.lt (λe=>by have:=(h.rb.lt _ e.symm).1;omega)),n,o⟩⟩
 ·rcases h.ne with e|e
  ·cases hv:g.ownBlock with
   |none=>exact .inl rfl
   |some k=>right;rw[e];intro a;cases a
  ·exact .inr (λa=>e a.symm)
 ·rcases d with e|e;·rw[e];exact h.ne
  ·right;rw[e];intro a;have:=(h.ra.lt _ a.symm).2;omega
theorem EL (W:Wd)(b j:Nat)(u:Va):W.grownBy (W.setCell (Y b j) u) (some b):=
 ⟨rfl,rfl,rfl,by show W.heap.size<=(W.heap.modify _ _).size;rw[Array.size_modify];exact nlq _,λk _ a=>bhs W _ u k (λe=>a (by rw[e]))⟩
theorem z8 (h:w.ownsRow z e l c n xs)(hb:p<z)(j:Nat)(u:Va):(w.setCell (Y p j) u).ownsRow z e l c n xs:=
 h.kept (EL w p j u) (by cases a:c.ownBlock with|none=>exact .inl rfl|some k=>right;intro e;have:=(h.lt k a).1;cases e;omega)
theorem qZ.setBox (h:qZ z a d A B m w)(s:Sp):qZ z a d A B s ((w.setCell (Y z 0) (I s.lo)).setCell (Y z 1) (I s.hi)):=by
 obtain⟨f,c,h0,h1⟩:=h.bx;exact⟨z8 (z8 h.ra om _ _) om _ _,z8 (z8 h.rb om _ _) om _ _,h.ne,h.nb,_,(c.set _ _).set _ _,sm,sm⟩
theorem qZ.cells (h:qZ z d g A B m w):w.cell? (Y z 0)=some (I m.lo)/\w.cell? (Y z 1)=some (I m.hi):=by
 obtain⟨f,a,b,c⟩:=h.bx;exact⟨by rw[a.cell om,b],by rw[a.cell om,c]⟩
theorem kL (h:Below z w w')(e:z<=w.heap.size)(c:w'.grownBy v j)(d:∀k,j=some k->z<=k):Below z w v:=
 h.grown c (nlt e h.size) d
theorem M6 (r:Int)(hmost:r<=10000)(l:List Sp)(m:Sp)(ao:Oa)(P:Nat)(w:Wd)(zg:PB w ao l)(O:DM r l)(zr:0<=m.lo)(zs:m.hi<=r):
 aW 171 #[.slice ao (ln l) P,m.val] w λe w'=>(∃C t T,e=rt (.slice C (ln T) t)/\PB w' C T/\DM r T/\∀n,i8 T n↔(i8 l n∨(m.lo<=n/\n<=m.hi)))/\aG w w':=by
 have hl:=zg.1;have HL:=aI zg;clear zg;obtain⟨i0,hi,R,M,S⟩:=info_parts Tryz.info175;have hn:ln l<=10001:=by have:=kV l 0 r O.c O.b;omega
 have A0:=wnq w m.obj;have zm:aG w (w.alloc m.obj):=aC (br _ _) _;obtain⟨v1,h1⟩:∃v,I9 m=v:=⟨_,rfl⟩;obtain⟨v2,h2⟩:∃v,kW l m=v:=⟨_,rfl⟩
 go_enter func171,ntmps171
 go_wp2_with fail
 refine(UV m _).mono ?_;rintro e w1 ⟨rfl,zb⟩;rw[h1];have A1:=btq zb A0;have N1:=aE zm zb;clear zb zm A0
 cases v1 with
 |true=>
  go_wp2
  go_ret;exact⟨⟨ao,P,l,rfl,HL.oQ.zL N1,O,λn=>⟨.inl,λh=>h.elim id (λg=>by simp only[I9,dte]at h1;omega)⟩⟩,N1⟩
 |false=>
 have zx:m.lo<=m.hi:=by simp only[I9,dfi]at h1;omega
 have U:w1.cell? (ya w 0)=some (I m.lo):=cB A1 rfl;have V:w1.cell? (ya w 1)=some (I m.hi):=cB A1 rfl;go_wp2_with fail
 refine(xX l m ao P _ (hl.zL N1) om).mono ?_;rintro e w2 ⟨rfl,zc⟩;rw[h2];have A2:=btq zc A1;have N2:=aE N1 zc;clear zc N1 A1 U V
 cases v2 with
 |true=>
  go_wp2
  go_ret;refine⟨⟨ao,P,l,rfl,HL.oQ.zL N2,O,λn=>⟨.inl,λh=>h.elim id (λg=>?_)⟩⟩,N2⟩;obtain⟨s,zy,hh⟩:=List.any_eq_true.1 h2;simp only[kI,bat,dte]at hh;exact⟨s,zy,om,om⟩
 |false=>
 clear h1 h2;go_wp2
 go_loopw [5,6,19] (λva vb i wr=>∃(k:Nat) (A B:List Sp) (o:Sp),k<=ln l/\i=I k/\qZ w.heap.size va vb A B o wr/\aG w wr/\Hid (rS m (l.take k) A B o)) (λ_ _ i _=>ln l-(intOf i).toNat)
 case atStart=>exact⟨0,[],[],m,nz _,rfl,⟨won _ _ _ _,won _ _ _ _,.inl rfl,λ_=>rfl,_,uJ A2,rfl,rfl⟩,N2,by rw[Hid,List.take_zero];exact OE m zx⟩
 case round=>
  clear A2 N2;obtain⟨k,A,B,o,hk,rfl,J,hN,N⟩:=hrel;have hlen:=N.out.ln;have hlk:ln (l.take k)<=k:=List.length_take_le _ _;have hin:=N.out.inb 0 r zr zs (λs zy=>O.b s (lmt zy));have hm'n:=N.out.ne;have zq:o.Small:=⟨om,om,om,om⟩
  by_cases L:k<ln l
  ·rcases hl with h|⟨bl,off,rfl,hc⟩
   ·subst h;simp at L
   have ze:=(hc k L).zL hN;have zz:=O.b l[k] (lgm L);have yb:=O.c.ne l[k] (lgm L);obtain⟨s,zh⟩:=bQ (l[k]);rw[←zh]at ze zz yb;have yc:s.Small:=⟨om,om,om,om⟩;have HT:Hid (l.take (k+1)=l.take k++[s]):=by rw[Hid,tsa L,zh]
   have X:kZ (l.take k++[s]):=by
    rw[←HT.oQ];exact⟨λx hx=>O.c.ne x (lmt hx),O.c.sep.sublist (List.take_sublist _ _)⟩
   have HC:=aI X;clear zh hc X;obtain⟨c0,c1⟩:=JP ze;clear ze;have hbz:bl<wr.heap.size:=aA c0;have zu:w.heap.size<wr.heap.size:=aA J.cells.1;have U:wr.cell? (ya w 0)=some (I o.lo):=J.cells.1;have V:wr.cell? (ya w 1)=some (I o.hi):=J.cells.2;have S0:=wnq wr s.obj;have zn:aG wr (wr.alloc s.obj):=aC (br _ _) _;obtain⟨u1,g1⟩:∃v,rM s o=v:=⟨_,rfl⟩;obtain⟨u2,g2⟩:∃v,rM o s=v:=⟨_,rfl⟩;go_wp2_with fail
   refine(FX s o _ zq).mono ?_;rintro e w3 ⟨rfl,D⟩;rw[g1];have S3:=btq D S0;have D:=aE zn D;have y:=J.zL D;have N3:=aE hN D;have zv:=nll zu D.size;have hrz:wr.heap.size<w3.heap.size:=(cE S3);clear c0 c1 U V S0 zn J hN;have s0:w3.cell? (ya wr 0)=some (I s.lo):=cB S3 rfl;have s1:w3.cell? (ya wr 1)=some (I s.hi):=cB S3 rfl
   cases u1 with
   |true=>
    have zt:s.hi+1<o.lo:=by simpa[rM]using g1
    go_wp2_with (at_builtin;refine wpList_append_own_at _ rfl (.tmp 30) (.tmp 32) 173 rfl (w.heap.size+1) 175 i0 _ 2 16 underlying173 hi R M S rfl dz _ _ _ rfl (y.ra.alloc _) (ya w3 0) 1 1 s.cells rfl rfl ?qc1 ?qc2 ?qc3 ?qc4 ?qc5 ?_)
    case qc1=>first|exact λ_ _ h=>h|exact PH _ _ rfl s
    case qc2=>intro u hu;simp[Sp.cells]at hu;rcases hu with rfl|rfl<;>rfl
    case qc3=>unfold maxLen;omega
    case qc4=>omega
    case qc5=>simp;omega
    intro v' H j a _ z;have d:qZ w.heap.size v' u6 (A++[s]) B o H:=(y.zL (aC (br _ _) s.obj)).grownA (by rw[fI,lla];simpa[eX]using j) a (by simpa using z);have G:aG w H:=kL (aC N3 s.obj) (nlq _) a (λk e=>by have:=(y.ra.lt k e).1;omega);clear a j z y N3 S3 s0 s1;go_wp2
    go_roundw
    case rel=>exact⟨k+1,A++[s],B,o,om,gn,d,G,by rw[Hid,HT.oQ];exact N.out.ahead HC.oQ zt⟩
    case measure=>simp[intOf];omega
   |false=>
   have zt:¬s.hi+1<o.lo:=by simpa[rM]using g1
   have U:w3.cell? (ya w 0)=some (I o.lo):=y.cells.1;have V:w3.cell? (ya w 1)=some (I o.hi):=y.cells.2;go_wp2_with fail
   refine(FX o s _ yc).mono ?_;rintro e H ⟨rfl,K⟩;rw[g2];have S4:=btq K S3;have d:=y.zL K;have G:=aE N3 K;have hwz4:=nll zv K.size;clear s0 s1 U V y N3 S3 D K;have s0:H.cell? (ya wr 0)=some (I s.lo):=cB S4 rfl;have s1:H.cell? (ya wr 1)=some (I s.hi):=cB S4 rfl
   cases u2 with
   |true=>
    have Z:o.hi+1<s.lo:=by simpa[rM]using g2
    go_wp2_with (at_builtin;refine wpList_append_own_at _ rfl (.tmp 38) (.tmp 40) 173 rfl (w.heap.size+1) 175 i0 _ 2 16 underlying173 hi R M S rfl dz _ _ _ rfl (d.rb.alloc _) (ya H 0) 1 1 s.cells rfl rfl ?qc1 ?qc2 ?qc3 ?qc4 ?qc5 ?_)
    case qc1=>first|exact λ_ _ h=>h|exact PH _ _ rfl s
    case qc2=>intro u hu;simp[Sp.cells]at hu;rcases hu with rfl|rfl<;>rfl
    case qc3=>unfold maxLen;omega
    case qc4=>omega
    case qc5=>simp;omega
    intro v' w5 j a _ z;have Q:qZ w.heap.size u5 v' A (B++[s]) o w5:=(d.zL (aC (br _ _) s.obj)).grownB (by rw[fI,lla];simpa[eX]using j) a (by simpa using z) sm;have N5:aG w w5:=kL (aC G s.obj) (nlq _) a (λk e=>by have:=(d.rb.lt k e).1;omega);clear a j z d G S4 s0 s1;go_wp2
    go_roundw
    case rel=>exact⟨k+1,A,B++[s],o,om,gn,Q,N5,by rw[Hid,HT.oQ];exact N.out.behind HC.oQ Z⟩
    case measure=>simp[intOf];omega
   |false=>
    have Z:¬o.hi+1<s.lo:=by simpa[rM]using g2
    have U:H.cell? (ya w 0)=some (I o.lo):=d.cells.1;have V:H.cell? (ya w 1)=some (I o.hi):=d.cells.2;go_wp2_with fail
    refine(QS o s _).mono ?_;rintro e w5 ⟨rfl,zd⟩;have Q:=d.zL zd;have N5:=aE G zd;obtain⟨f,rR,rf0,rf1⟩:=Q.bx;clear s0 s1 U V d G S4 zd;have r0:=rR.cell (i:=0) om;have r1:=rR.cell (i:=1) om;have rf:=λi=>rR.frozen i;go_wp2
    go_roundw
    case rel=>exact⟨k+1,A,B,kY o s,om,gn,Q.setBox _,(N5.setCell (p:=(ya w 0)) (nlq _) _).setCell (p:=(ya w 1)) (nlq _) _,by rw[Hid,HT.oQ];exact N.out.join HC.oQ om om⟩
    case measure=>simp[intOf];omega
  ·have zw:l.take k=l:=ltl om
   rw[zw]at N;have zu:w.heap.size<wr.heap.size:=aA J.cells.1;obtain⟨U,V⟩:=J.cells
   go_wp2_with (at_builtin;refine wpList_append_own_at _ rfl (.tmp 43) (.tmp 45) 173 rfl (w.heap.size+1) 175 i0 _ 2 16 underlying173 hi R M S rfl dz _ _ _ rfl (J.ra.alloc _) (ya wr 0) 1 1 o.cells rfl rfl ?qc1 ?qc2 ?qc3 ?qc4 ?qc5 ?_)
   case qc1=>first|exact λ_ _ h=>h|exact PH _ _ rfl o
   case qc2=>intro u hu;simp[Sp.cells]at hu;rcases hu with rfl|rfl<;>rfl
   case qc3=>unfold maxLen;omega
   case qc4=>omega
   case qc5=>simp;omega
   intro v' H j a _ z;have q:H.ownsRow (w.heap.size+1) 175 2 v' (ln (A++[o])) (eX (A++[o])):=by rw[fI,lla];simpa[eX]using j
   have d:qZ w.heap.size v' u6 (A++[o]) B o H:=(J.zL (aC (br _ _) o.obj)).grownA q a (by simpa using z);have G:aG w H:=kL (aC hN o.obj) (nlq _) a (λk e=>by have:=(J.ra.lt k e).1;omega);clear a j z J U V;have zl:ln (A++[o])=ln A+1:=by simp
   have zk:∀(v:Va) (W:Wd),W.ownsRow (w.heap.size+1) 175 2 v (ln (A++[o]++B)) (eX (A++[o]++B))->aG w W->
    (∃C t T,Ending.returned v=rt (.slice C (ln T) t)/\PB W C T/\DM r T/\∀n,i8 T n↔(i8 l n∨(m.lo<=n/\n<=m.hi)))/\aG w W:=λv W ye hB=>by
    obtain⟨C,t,rfl,hx⟩:=own_xsT ye;exact⟨⟨C,t,_,rfl,hx,⟨N.out.canon,N.out.bound zr zs O.b⟩,N.out.memAll⟩,hB⟩
   have HF:=zk;clear zk
   rcases q.2 with⟨_,h0⟩|⟨g,zi,cur,rfl,hbg,_,hnc,_⟩
   ·rw[zl]at h0;omega
   by_cases za:B=[]
   ·have yd:=d.nb za
    subst za yd
    go_wp2_with (at_builtin;refine wpList_append_fits_any _ rfl (.tmp 46) (.tmp 47) 173 rfl (w.heap.size+1) 175 i0 2 underlying173 hi M g _ zi _ rfl q none 0 0 [] rfl rfl (λ_=>⟨rfl,rfl⟩) (λ_ h=>by cases h) sm om ?_)
    intro w5 F zf;have N5:aG w w5:=kL G (nlq _) zf (λk e=>by cases e;omega);clear d q G;go_wp2
    go_ret;exact HF _ _ (by simpa[eX]using F) N5
   ·rcases d.rb.2 with⟨_,h0⟩|⟨gb,zj,curb,rfl,_⟩
    ·exact absurd (enl h0) za
    have zp:=d.rb.cells (g:=gb) rfl
    go_wp2_with (at_builtin;refine wpList_append_own_at _ rfl (.tmp 46) (.tmp 47) 173 rfl (w.heap.size+1) 175 i0 _ 2 16 underlying173 hi R M S rfl dz _ _ _ rfl q (Y gb 0) (ln B) zj (eX B) rfl (jT B) zp (SJ B) ?qc3 ?qc4 ?qc5 ?_)
    case qc3=>unfold maxLen;omega
    case qc4=>omega
    case qc5=>have:=G.size;have:=d.cells.1;have:=aA this;simp at this;omega
    intro v5 w5 F zf _ _;have N5:aG w w5:=kL G (nlq _) zf (λk e=>by simp[Value.ownBlock]at e;omega);clear d q G zp;go_wp2
    go_ret;exact HF v5 _ (by rw[fI,lla,zl];exact F) N5
